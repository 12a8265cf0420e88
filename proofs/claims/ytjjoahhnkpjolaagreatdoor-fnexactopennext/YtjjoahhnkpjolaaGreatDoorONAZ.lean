import Derived.Test.YtjjoahhnkpjolaaGreatDoorONAY
set_option linter.unusedVariables false
set_option linter.unusedSimpArgs false
set_option maxRecDepth 100000
set_option maxHeartbeats 4000000
namespace Go.Proofs.YtjjoahhnkpjolaaGreatDoor
open Go.RowKit Go.BigFrame
open Nat renaming le_trans->H
open IntKind renaming i64->K
open Value renaming int->G,slice->Q
open Go.Proofs.Tryz
section
open Go.Maps
theorem z6w(xs:List ItemD)(q:Int)(k:Nat)(hk:k<xs.length):delI (xs.take (k+1)) q=delI (xs.take k) q++(if((xs.getD k z0b).key==q)=true then []else [xs.getD k z0b]):=by
 have e:xs.getD k z0b=xs[k]:=by simp[List.getD,hk]
 unfold delI;rw[List.take_succ_eq_append_getElem hk,List.filter_append,e]
 congr 1
 cases hp:(xs[k].key==q)<;>simp[hp]
theorem q28{zs:List ItemD}{k:Nat}(h:k<zs.length):zs.drop k=zs.getD k z0b::zs.drop (k+1):=by
 have e:zs.getD k z0b=zs[k]:=by simp[List.getD,h]
 rw[List.drop_eq_getElem_cons h,e]
theorem z0J(xs:List ItemD)(z:ItemD):z0g (xs++[z])=z0g xs++[G K z.key,G K z.val]:=by simp[z0g,ItemD.cells]
theorem q1A(a:Option Addr)(cap:Nat)(xs:List ItemD)(q:Int)(w:World)(h:ItemRow w a xs)(hl:xs.length≤100):
  Calls Tryz.prog 240 #[Q a xs.length cap,G K q] w fun e w'=>∃b c,e=.returned (.slice b (delI xs q).length c)∧
   w'.ownsRow w.heap.size 173 2 (.slice b (delI xs q).length c) (delI xs q).length (z0g (delI xs q))∧Below w.heap.size w w':=by
 obtain⟨i0,hi,V,W,X⟩:=info_parts z2j;go_enter func240,ntmps240
 go_wp2
 go_loopw[5,6] (fun v j wr=>∃k:Nat,k≤xs.length∧j=G K k∧wr.ownsRow w.heap.size 173 2 v (delI (xs.take k) q).length (z0g (delI (xs.take k) q))∧Below w.heap.size w wr) (fun _ j _=>xs.length-(intOf j).toNat)
 case atStart=>exact⟨0,Nat.zero_le _,rfl,by rw[List.take_zero];exact World.ownsRow_lit w #[] 0 (Nat.le_refl _) (by decide) rfl,by go_grown⟩
 case round=>
  obtain⟨k,hk,rfl,ho,hb⟩:=hrel;obtain⟨a1,c1,rfl⟩:=z0f ho;have O:=hb.size;by_cases M:k<xs.length
  ·obtain⟨b,J,rfl,I,d,A⟩:=h.at k M;have hs:=z6w xs q k M;have T:(delI (xs.take k) q).length≤100:=by have:=z5Y (xs.take k) q;simp at this;omega
   generalize delI (xs.take k) q=F at ho hs T
   cases he:((xs.getD k z0b).key==q)
   ·have HS:Hid (delI (xs.take (k+1)) q=F++[xs.getD k z0b]):=by
     show _=_;rw[hs,he];simp
    have C:((xs.getD k z0b).key !=q)=true:=by unfold bne;rw[he];rfl
    clear hs;generalize xs.getD k z0b=z at d A he HS C;obtain⟨z0,z1⟩:=z;dsimp only at d A he C;have d0:=(hb.cell (p:=⟨b,J+k*2,none⟩) I).trans d;have d1:=(hb.cell (p:=⟨b,J+k*2+1,none⟩) I).trans A;have L:Below w.heap.size wr (wr.alloc (.cells #[G K z0,G K z1] 173)):=(Below.refl _ _).alloc (by omega) _;have N:=ho.alloc (.cells #[G K z0,G K z1] 173)
    go_wp2_with (at_builtin;refine wpList_append_own _ rfl _ _ 53 rfl w.heap.size 173 i0 (.agg #[G K 0,G K 0]) 2 16 Tryz.underlying53 hi V W X rfl (by decide) _ F.length (z0g F) rfl N ⟨wr.heap.size,0,none⟩ 1 1 [G K z0,G K z1] rfl rfl ?c1 ?c2 ?c3 ?c4 ?c5 ?_)
    all_goals try(case c1=>intro j u hj;match j,hj with|0,hj=>simp at hj;subst hj;simp[Addr.add]|1,hj=>simp at hj;subst hj;simp[Addr.add])
    all_goals try(case c2=>first|rfl|(intro u hu;simp at hu;rcases hu with rfl|rfl<;>rfl))
    all_goals try(case c3=>unfold maxLen;omega)
    all_goals try(case c4=>omega)
    all_goals try(case c5=>first|omega|(simp;omega))
    intro v' w3 y x _;obtain⟨a2,c2,rfl⟩:=z0f y;have E:Below w.heap.size wr w3:=L.grown x (by simp;omega) (fun j hj=>(ho.lt j hj).1);replace hb:=hb.trans E;have D:=H O E.size;replace O:=D;replace ho:=y;clear L x N y E D d0 d1;have R:Hid (_∧_):=⟨ho,hb⟩
    clear ho hb
    go_wp2
    go_roundw
    case rel=>
     refine⟨k+1,by omega,by go_num,?_,R.out.2⟩;rw[HS.out,z0J];simpa using R.out.1
    case measure=>simp[intOf];omega
   ·have HS:Hid (delI (xs.take (k+1)) q=F):=by
     show _=_;rw[hs,he];simp
    have C:((xs.getD k z0b).key !=q)=false:=by unfold bne;rw[he];rfl
    clear hs;have d0:=(hb.cell (p:=⟨b,J+k*2,none⟩) I).trans d;generalize (xs.getD k z0b).key=z0 at d0 he C;have R:Hid (_∧_):=⟨ho,hb⟩
    clear ho hb d A
    go_wp2
    go_roundw
    case rel=>exact⟨k+1,by omega,by go_num,by rw[HS.out];exact R.out.1,R.out.2⟩
    case measure=>simp[intOf];omega
  ·have U:k=xs.length:=by omega
   subst U;rw[List.take_length]at ho
   go_wp2
   go_ret;simp only[List.take_length];exact⟨_,_,rfl,ho,hb⟩
theorem q29(x y:ItemD)(r:List ItemD)(d:Bool):setR x d (y::r)=(if !d && decide (x.key≤y.key)then [x]else [])++((if y.key==x.key then []else [y])++setR x (d||decide (x.key≤y.key)) r):=rfl
theorem q3a(a:Option Addr)(cap:Nat)(xs:List ItemD)(x0 x1:Int)(w:World)(h:ItemRow w a xs)(hl:xs.length≤100):
  Calls Tryz.prog 241 #[Q a xs.length cap,.agg #[G K x0,G K x1]] w fun e w'=>∃b c,e=.returned (.slice b (setR ⟨x0,x1⟩ false xs).length c)∧
   w'.ownsRow w.heap.size 173 2 (.slice b (setR ⟨x0,x1⟩ false xs).length c) (setR ⟨x0,x1⟩ false xs).length (z0g (setR ⟨x0,x1⟩ false xs))∧Below w.heap.size w w':=by
 obtain⟨i0,hi,Y,Z,aa⟩:=info_parts z2j;have X:Below w.heap.size w (w.alloc (.cells #[G K x0,G K x1] 173)):=by go_grown
 have V:(w.alloc (.cells #[G K x0,G K x1] 173)).cell? ⟨w.heap.size,0,none⟩=some (G K x0):=by simp
 have ah:(w.alloc (.cells #[G K x0,G K x1] 173)).cell? ⟨w.heap.size,1,none⟩=some (G K x1):=by simp
 have T:w.heap.size<w.heap.size+1:=Nat.lt_succ_self _;have af:Below (w.heap.size+1) (w.alloc (.cells #[G K x0,G K x1] 173)) ((w.alloc (.cells #[G K x0,G K x1] 173)).alloc (.cells #[] 173)):=(Below.refl _ _).alloc (by simp) _;have aj:((w.alloc (.cells #[G K x0,G K x1] 173)).alloc (.cells #[] 173)).ownsRow (w.heap.size+1) 173 2 (Q (some ⟨w.heap.size+1,0,none⟩) 0 0) 0 []:=by
  have:=World.ownsRow_lit (size:=2) (e:=173) (w.alloc (.cells #[G K x0,G K x1] 173)) #[] 0 (Nat.le_refl _) (by decide) rfl;rw[World.size_alloc]at this;exact this
 have ak:w.heap.size+1≤((w.alloc (.cells #[G K x0,G K x1] 173)).alloc (.cells #[] 173)).heap.size:=by simp
 go_enter func241,ntmps241
 go_wp2
 generalize (w.alloc (.cells #[G K x0,G K x1] 173)).alloc (.cells #[] 173)=WE at af aj ak;generalize w.alloc (.cells #[G K x0,G K x1] 173)=W0 at X V ah af;have am:∀b,b<w.heap.size→b<w.heap.size+1:=fun b hb=>by omega
 have ao:=X.size;go_loopw[5,6,7] (fun v dv j wr=>∃ (k:Nat) (d:Bool) (L:List ItemD),k≤xs.length∧j=G K k∧dv=.bool d∧L.length≤2*k∧wr.ownsRow (w.heap.size+1) 173 2 v L.length (z0g L)∧Below (w.heap.size+1) W0 wr∧w.heap.size+1≤wr.heap.size∧Hid (L++setR ⟨x0,x1⟩ d (xs.drop k)=setR ⟨x0,x1⟩ false xs)) (fun _ _ j _=>xs.length-(intOf j).toNat)
 case atStart=>exact⟨0,false,[],Nat.zero_le _,rfl,rfl,by simp,aj,af,ak,by show _=_;simp⟩
 case round=>
  clear aj af ak;obtain⟨k,d,L,hk,rfl,rfl,ap,ho,hb,y,HI⟩:=hrel;obtain⟨a1,c1,rfl⟩:=z0f ho;by_cases al:k<xs.length
  ·obtain⟨b,M,rfl,ae,N,W⟩:=h.at k al;replace N:W0.cell? _=_:=(X.cell (p:=⟨b,M+k*2,none⟩) ae).trans N;replace W:W0.cell? _=_:=(X.cell (p:=⟨b,M+k*2+1,none⟩) ae).trans W;have O:=am b ae;have U:=HI.out;rw[q28 al,q29]at U;generalize xs.getD k z0b=z at N W U;obtain⟨z0,z1⟩:=z;dsimp only at N W U;clear HI
   cases hE:(z0==x0)
   ·have E:(z0 !=x0)=true:=by simp[bne,hE]
    cases d
    ·by_cases ag:x0≤z0
     ·have hG:decide (x0≤z0)=true:=by simp[ag]
      have HS:Hid ((L++[⟨x0,x1⟩]++[⟨z0,z1⟩])++setR ⟨x0,x1⟩ true (xs.drop (k+1))=setR ⟨x0,x1⟩ false xs):=by
       show _=_;rw[←U];simp only[Bool.not_true,Bool.not_false,Bool.false_and,Bool.true_and,Bool.true_or,Bool.false_or,hE,hG,if_true,if_false,Bool.false_eq_true,List.nil_append,List.append_assoc,List.cons_append]
      clear U;have d0:=z0a ((hb.cell (p:=⟨b,M+k*2,none⟩) O).trans N);have d1:=z0a ((hb.cell (p:=⟨w.heap.size,0,none⟩) T).trans V);have hW:Below wr.heap.size wr wr.drew:=(Below.refl _ _).drew;have E:Nonempty (Lat wr):=⟨⟨wr,Below.refl _ _⟩⟩
      go_wp2_with fail
      refine z0d (S:=fun w'=>∃u:Lat wr,w'=u.val) (by kernel_rfl) ?_;refine sgr [(0,12)] 0 (by kernel_rfl) ⟨⟨_,hW⟩,rfl⟩ ?_;simp only[pkE];repeat go_big_quiet_step (fail)
      refine wpQuiet_nil ?_;refine z0h (by kernel_rfl) ?_;replace ho:=z0c ho hW;replace hb:=hb.trans (hW.mono y);have x:=H y hW.size;replace y:=x;clear hW E x d0 d1;generalize wr.drew=u1 at ho hb y;have d0:=(hb.cell (p:=⟨w.heap.size,0,none⟩) T).trans V;have d1:=(hb.cell (p:=⟨w.heap.size,1,none⟩) T).trans ah;have I:Below (w.heap.size+1) u1 (u1.alloc (.cells #[G K x0,G K x1] 173)):=(Below.refl _ _).alloc (by omega) _;have J:=ho.alloc (.cells #[G K x0,G K x1] 173)
      go_wp2_with (at_builtin;refine wpList_append_own _ rfl _ _ 53 rfl (w.heap.size+1) 173 i0 (.agg #[G K 0,G K 0]) 2 16 Tryz.underlying53 hi Y Z aa rfl (by decide) _ L.length (z0g L) rfl J ⟨u1.heap.size,0,none⟩ 1 1 [G K x0,G K x1] rfl rfl ?c1 ?c2 ?c3 ?c4 ?c5 ?_)
      all_goals try(case c1=>intro j u hj;match j,hj with|0,hj=>simp at hj;subst hj;simp[Addr.add]|1,hj=>simp at hj;subst hj;simp[Addr.add])
      all_goals try(case c2=>first|rfl|(intro u hu;simp at hu;rcases hu with rfl|rfl<;>rfl))
      all_goals try(case c3=>unfold maxLen;omega)
      all_goals try(case c4=>omega)
      all_goals try(case c5=>first|omega|(simp;omega))
      intro v' u2 C A _;obtain⟨a2,c2,rfl⟩:=z0f C;have D:Below (w.heap.size+1) u1 u2:=I.grown A (by simp;omega) (fun j hj=>(ho.lt j hj).1);replace hb:=hb.trans D;have x:=H y D.size;replace y:=x;replace ho:=C;clear I A J C D x d0 d1;replace ho:u2.ownsRow (w.heap.size+1) 173 2 (Q a2 (L.length+1) c2) (L.length+1) (z0g (L++[⟨x0,x1⟩])):=by rw[z0J];simpa using ho
      generalize ad:L++[(⟨x0,x1⟩:ItemD)]=L2 at ho HS;have ab:Hid (L2.length=L.length+1):=by
       show _=_;rw[←ad];simp
      clear ad;have d0:=z0a ((hb.cell (p:=⟨b,M+k*2,none⟩) O).trans N);have d1:=z0a ((hb.cell (p:=⟨w.heap.size,0,none⟩) T).trans V);have hW:Below u2.heap.size u2 u2.drew:=(Below.refl _ _).drew;have E:Nonempty (Lat u2):=⟨⟨u2,Below.refl _ _⟩⟩
      go_wp2_with fail
      refine z0d (S:=fun w'=>∃u:Lat u2,w'=u.val) (by kernel_rfl) ?_;refine sgr [(0,8)] 0 (by kernel_rfl) ⟨⟨_,hW⟩,rfl⟩ ?_;simp only[pkE];repeat go_big_quiet_step (fail)
      refine wpQuiet_nil ?_;refine z0h (by kernel_rfl) ?_;replace ho:=z0c ho hW;replace hb:=hb.trans (hW.mono y);have x:=H y hW.size;replace y:=x;clear hW E x d0 d1;generalize u2.drew=u3 at ho hb y;have d0:=(hb.cell (p:=⟨b,M+k*2,none⟩) O).trans N;have d1:=(hb.cell (p:=⟨b,M+k*2+1,none⟩) O).trans W;have I:Below (w.heap.size+1) u3 (u3.alloc (.cells #[G K z0,G K z1] 173)):=(Below.refl _ _).alloc (by omega) _;have J:=ho.alloc (.cells #[G K z0,G K z1] 173)
      go_wp2_with (at_builtin;refine wpList_append_own _ rfl _ _ 53 rfl (w.heap.size+1) 173 i0 (.agg #[G K 0,G K 0]) 2 16 Tryz.underlying53 hi Y Z aa rfl (by decide) _ (L.length+1) (z0g L2) rfl J ⟨u3.heap.size,0,none⟩ 1 1 [G K z0,G K z1] rfl rfl ?c1 ?c2 ?c3 ?c4 ?c5 ?_)
      all_goals try(case c1=>intro j u hj;match j,hj with|0,hj=>simp at hj;subst hj;simp[Addr.add]|1,hj=>simp at hj;subst hj;simp[Addr.add])
      all_goals try(case c2=>first|rfl|(intro u hu;simp at hu;rcases hu with rfl|rfl<;>rfl))
      all_goals try(case c3=>unfold maxLen;omega)
      all_goals try(case c4=>omega)
      all_goals try(case c5=>first|omega|(simp;omega))
      intro v' u4 C A _;obtain⟨a4,c4,rfl⟩:=z0f C;have D:Below (w.heap.size+1) u3 u4:=I.grown A (by simp;omega) (fun j hj=>(ho.lt j hj).1);replace hb:=hb.trans D;have x:=H y D.size;replace y:=x;replace ho:=C;clear I A J C D x d0 d1;have R:Hid (_∧_∧_):=⟨ho,hb,y⟩
      clear ho hb y
      go_wp2
      go_roundw
      case rel=>
       refine⟨k+1,true,L2++[⟨z0,z1⟩],by omega,by go_num,rfl,by have:=ab.out;first|(simp;omega)|omega,?_,R.out.2.1,R.out.2.2,HS⟩;have:=R.out.1;rw[z0J];simpa[ab.out]using this
      case measure=>simp[intOf];omega
     ·have hG:decide (x0≤z0)=false:=by simp[ag]
      have HS:Hid ((L++[⟨z0,z1⟩])++setR ⟨x0,x1⟩ false (xs.drop (k+1))=setR ⟨x0,x1⟩ false xs):=by
       show _=_;rw[←U];simp only[Bool.not_true,Bool.not_false,Bool.false_and,Bool.true_and,Bool.true_or,Bool.false_or,hE,hG,if_true,if_false,Bool.false_eq_true,List.nil_append,List.append_assoc,List.cons_append]
      clear U;have d0:=z0a ((hb.cell (p:=⟨b,M+k*2,none⟩) O).trans N);have d1:=z0a ((hb.cell (p:=⟨w.heap.size,0,none⟩) T).trans V);have hW:Below wr.heap.size wr wr.drew:=(Below.refl _ _).drew;have E:Nonempty (Lat wr):=⟨⟨wr,Below.refl _ _⟩⟩
      go_wp2_with fail
      refine z0d (S:=fun w'=>∃u:Lat wr,w'=u.val) (by kernel_rfl) ?_;refine sgr [(0,12)] 0 (by kernel_rfl) ⟨⟨_,hW⟩,rfl⟩ ?_;simp only[pkE];repeat go_big_quiet_step (fail)
      refine wpQuiet_nil ?_;refine z0h (by kernel_rfl) ?_;replace ho:=z0c ho hW;replace hb:=hb.trans (hW.mono y);have x:=H y hW.size;replace y:=x;clear hW E x d0 d1;generalize wr.drew=u1 at ho hb y;have d0:=z0a ((hb.cell (p:=⟨b,M+k*2,none⟩) O).trans N);have d1:=z0a ((hb.cell (p:=⟨w.heap.size,0,none⟩) T).trans V);have hW:Below u1.heap.size u1 u1.drew:=(Below.refl _ _).drew;have E:Nonempty (Lat u1):=⟨⟨u1,Below.refl _ _⟩⟩
      go_wp2_with fail
      refine z0d (S:=fun w'=>∃u:Lat u1,w'=u.val) (by kernel_rfl) ?_;refine sgr [(0,8)] 0 (by kernel_rfl) ⟨⟨_,hW⟩,rfl⟩ ?_;simp only[pkE];repeat go_big_quiet_step (fail)
      refine wpQuiet_nil ?_;refine z0h (by kernel_rfl) ?_;replace ho:=z0c ho hW;replace hb:=hb.trans (hW.mono y);have x:=H y hW.size;replace y:=x;clear hW E x d0 d1;generalize u1.drew=u3 at ho hb y;have d0:=(hb.cell (p:=⟨b,M+k*2,none⟩) O).trans N;have d1:=(hb.cell (p:=⟨b,M+k*2+1,none⟩) O).trans W;have I:Below (w.heap.size+1) u3 (u3.alloc (.cells #[G K z0,G K z1] 173)):=(Below.refl _ _).alloc (by omega) _;have J:=ho.alloc (.cells #[G K z0,G K z1] 173)
      go_wp2_with (at_builtin;refine wpList_append_own _ rfl _ _ 53 rfl (w.heap.size+1) 173 i0 (.agg #[G K 0,G K 0]) 2 16 Tryz.underlying53 hi Y Z aa rfl (by decide) _ L.length (z0g L) rfl J ⟨u3.heap.size,0,none⟩ 1 1 [G K z0,G K z1] rfl rfl ?c1 ?c2 ?c3 ?c4 ?c5 ?_)
      all_goals try(case c1=>intro j u hj;match j,hj with|0,hj=>simp at hj;subst hj;simp[Addr.add]|1,hj=>simp at hj;subst hj;simp[Addr.add])
      all_goals try(case c2=>first|rfl|(intro u hu;simp at hu;rcases hu with rfl|rfl<;>rfl))
      all_goals try(case c3=>unfold maxLen;omega)
      all_goals try(case c4=>omega)
      all_goals try(case c5=>first|omega|(simp;omega))
      intro v' u4 C A _;obtain⟨a4,c4,rfl⟩:=z0f C;have D:Below (w.heap.size+1) u3 u4:=I.grown A (by simp;omega) (fun j hj=>(ho.lt j hj).1);replace hb:=hb.trans D;have x:=H y D.size;replace y:=x;replace ho:=C;clear I A J C D x d0 d1;have R:Hid (_∧_∧_):=⟨ho,hb,y⟩
      clear ho hb y
      go_wp2
      go_roundw
      case rel=>
       refine⟨k+1,false,L++[⟨z0,z1⟩],by omega,by go_num,rfl,by first|(simp;omega)|omega,?_,R.out.2.1,R.out.2.2,HS⟩;have:=R.out.1;rw[z0J];simpa using this
      case measure=>simp[intOf];omega
    ·have HS:Hid ((L++[⟨z0,z1⟩])++setR ⟨x0,x1⟩ true (xs.drop (k+1))=setR ⟨x0,x1⟩ false xs):=by
      show _=_;rw[←U];simp only[Bool.not_true,Bool.not_false,Bool.false_and,Bool.true_and,Bool.true_or,Bool.false_or,hE,if_true,if_false,Bool.false_eq_true,List.nil_append,List.append_assoc,List.cons_append]
     clear U;have hW:Below wr.heap.size wr wr.drew:=(Below.refl _ _).drew;have E:Nonempty (Lat wr):=⟨⟨wr,Below.refl _ _⟩⟩
     go_wp2_with fail
     refine z0d (S:=fun w'=>∃u:Lat wr,w'=u.val) (by kernel_rfl) ?_;refine sgr [(0,12)] 0 (by kernel_rfl) ⟨⟨_,hW⟩,rfl⟩ ?_;simp only[pkE];repeat go_big_quiet_step (fail)
     refine wpQuiet_nil ?_;refine z0h (by kernel_rfl) ?_;replace ho:=z0c ho hW;replace hb:=hb.trans (hW.mono y);have x:=H y hW.size;replace y:=x;clear hW E x;generalize wr.drew=u1 at ho hb y;have d0:=z0a ((hb.cell (p:=⟨b,M+k*2,none⟩) O).trans N);have d1:=z0a ((hb.cell (p:=⟨w.heap.size,0,none⟩) T).trans V);have hW:Below u1.heap.size u1 u1.drew:=(Below.refl _ _).drew;have E:Nonempty (Lat u1):=⟨⟨u1,Below.refl _ _⟩⟩
     go_wp2_with fail
     refine z0d (S:=fun w'=>∃u:Lat u1,w'=u.val) (by kernel_rfl) ?_;refine sgr [(0,8)] 0 (by kernel_rfl) ⟨⟨_,hW⟩,rfl⟩ ?_;simp only[pkE];repeat go_big_quiet_step (fail)
     refine wpQuiet_nil ?_;refine z0h (by kernel_rfl) ?_;replace ho:=z0c ho hW;replace hb:=hb.trans (hW.mono y);have x:=H y hW.size;replace y:=x;clear hW E x d0 d1;generalize u1.drew=u3 at ho hb y;have d0:=(hb.cell (p:=⟨b,M+k*2,none⟩) O).trans N;have d1:=(hb.cell (p:=⟨b,M+k*2+1,none⟩) O).trans W;have I:Below (w.heap.size+1) u3 (u3.alloc (.cells #[G K z0,G K z1] 173)):=(Below.refl _ _).alloc (by omega) _;have J:=ho.alloc (.cells #[G K z0,G K z1] 173)
     go_wp2_with (at_builtin;refine wpList_append_own _ rfl _ _ 53 rfl (w.heap.size+1) 173 i0 (.agg #[G K 0,G K 0]) 2 16 Tryz.underlying53 hi Y Z aa rfl (by decide) _ L.length (z0g L) rfl J ⟨u3.heap.size,0,none⟩ 1 1 [G K z0,G K z1] rfl rfl ?c1 ?c2 ?c3 ?c4 ?c5 ?_)
     all_goals try(case c1=>intro j u hj;match j,hj with|0,hj=>simp at hj;subst hj;simp[Addr.add]|1,hj=>simp at hj;subst hj;simp[Addr.add])
     all_goals try(case c2=>first|rfl|(intro u hu;simp at hu;rcases hu with rfl|rfl<;>rfl))
     all_goals try(case c3=>unfold maxLen;omega)
     all_goals try(case c4=>omega)
     all_goals try(case c5=>first|omega|(simp;omega))
     intro v' u4 C A _;obtain⟨a4,c4,rfl⟩:=z0f C;have D:Below (w.heap.size+1) u3 u4:=I.grown A (by simp;omega) (fun j hj=>(ho.lt j hj).1);replace hb:=hb.trans D;have x:=H y D.size;replace y:=x;replace ho:=C;clear I A J C D x d0 d1;have R:Hid (_∧_∧_):=⟨ho,hb,y⟩
     clear ho hb y
     go_wp2
     go_roundw
     case rel=>
      refine⟨k+1,true,L++[⟨z0,z1⟩],by omega,by go_num,rfl,by first|(simp;omega)|omega,?_,R.out.2.1,R.out.2.2,HS⟩;have:=R.out.1;rw[z0J];simpa using this
     case measure=>simp[intOf];omega
   ·have E:(z0 !=x0)=false:=by simp[bne,hE]
    cases d
    ·have ag:x0≤z0:=by simp at hE;omega
     have hG:decide (x0≤z0)=true:=by simp[ag]
     have HS:Hid ((L++[⟨x0,x1⟩])++setR ⟨x0,x1⟩ true (xs.drop (k+1))=setR ⟨x0,x1⟩ false xs):=by
      show _=_;rw[←U];simp only[Bool.not_true,Bool.not_false,Bool.false_and,Bool.true_and,Bool.true_or,Bool.false_or,hE,hG,if_true,if_false,Bool.false_eq_true,List.nil_append,List.append_assoc,List.cons_append]
     clear U;have d0:=z0a ((hb.cell (p:=⟨b,M+k*2,none⟩) O).trans N);have d1:=z0a ((hb.cell (p:=⟨w.heap.size,0,none⟩) T).trans V);have hW:Below wr.heap.size wr wr.drew:=(Below.refl _ _).drew;have E:Nonempty (Lat wr):=⟨⟨wr,Below.refl _ _⟩⟩
     go_wp2_with fail
     refine z0d (S:=fun w'=>∃u:Lat wr,w'=u.val) (by kernel_rfl) ?_;refine sgr [(0,12)] 0 (by kernel_rfl) ⟨⟨_,hW⟩,rfl⟩ ?_;simp only[pkE];repeat go_big_quiet_step (fail)
     refine wpQuiet_nil ?_;refine z0h (by kernel_rfl) ?_;replace ho:=z0c ho hW;replace hb:=hb.trans (hW.mono y);have x:=H y hW.size;replace y:=x;clear hW E x d0 d1;generalize wr.drew=u1 at ho hb y;have d0:=(hb.cell (p:=⟨w.heap.size,0,none⟩) T).trans V;have d1:=(hb.cell (p:=⟨w.heap.size,1,none⟩) T).trans ah;have I:Below (w.heap.size+1) u1 (u1.alloc (.cells #[G K x0,G K x1] 173)):=(Below.refl _ _).alloc (by omega) _;have J:=ho.alloc (.cells #[G K x0,G K x1] 173)
     go_wp2_with (at_builtin;refine wpList_append_own _ rfl _ _ 53 rfl (w.heap.size+1) 173 i0 (.agg #[G K 0,G K 0]) 2 16 Tryz.underlying53 hi Y Z aa rfl (by decide) _ L.length (z0g L) rfl J ⟨u1.heap.size,0,none⟩ 1 1 [G K x0,G K x1] rfl rfl ?c1 ?c2 ?c3 ?c4 ?c5 ?_)
     all_goals try(case c1=>intro j u hj;match j,hj with|0,hj=>simp at hj;subst hj;simp[Addr.add]|1,hj=>simp at hj;subst hj;simp[Addr.add])
     all_goals try(case c2=>first|rfl|(intro u hu;simp at hu;rcases hu with rfl|rfl<;>rfl))
     all_goals try(case c3=>unfold maxLen;omega)
     all_goals try(case c4=>omega)
     all_goals try(case c5=>first|omega|(simp;omega))
     intro v' u2 C A _;obtain⟨a2,c2,rfl⟩:=z0f C;have D:Below (w.heap.size+1) u1 u2:=I.grown A (by simp;omega) (fun j hj=>(ho.lt j hj).1);replace hb:=hb.trans D;have x:=H y D.size;replace y:=x;replace ho:=C;clear I A J C D x d0 d1;replace ho:u2.ownsRow (w.heap.size+1) 173 2 (Q a2 (L.length+1) c2) (L.length+1) (z0g (L++[⟨x0,x1⟩])):=by rw[z0J];simpa using ho
     generalize ad:L++[(⟨x0,x1⟩:ItemD)]=L2 at ho HS;have ab:Hid (L2.length=L.length+1):=by
      show _=_;rw[←ad];simp
     clear ad;have d0:=z0a ((hb.cell (p:=⟨b,M+k*2,none⟩) O).trans N);have d1:=z0a ((hb.cell (p:=⟨w.heap.size,0,none⟩) T).trans V);have hW:Below u2.heap.size u2 u2.drew:=(Below.refl _ _).drew;have E:Nonempty (Lat u2):=⟨⟨u2,Below.refl _ _⟩⟩
     go_wp2_with fail
     refine z0d (S:=fun w'=>∃u:Lat u2,w'=u.val) (by kernel_rfl) ?_;refine sgr [(0,8)] 0 (by kernel_rfl) ⟨⟨_,hW⟩,rfl⟩ ?_;simp only[pkE];repeat go_big_quiet_step (fail)
     refine wpQuiet_nil ?_;refine z0h (by kernel_rfl) ?_;replace ho:=z0c ho hW;replace hb:=hb.trans (hW.mono y);have x:=H y hW.size;replace y:=x;clear hW E x d0 d1;generalize u2.drew=u3 at ho hb y;have R:Hid (_∧_∧_):=⟨ho,hb,y⟩
     clear ho hb y
     go_wp2
     go_roundw
     case rel=>
      refine⟨k+1,true,L2,by omega,by go_num,rfl,by have:=ab.out;first|(simp;omega)|omega,?_,R.out.2.1,R.out.2.2,HS⟩;have:=R.out.1;skip;simpa[ab.out]using this
     case measure=>simp[intOf];omega
    ·have HS:Hid ((L)++setR ⟨x0,x1⟩ true (xs.drop (k+1))=setR ⟨x0,x1⟩ false xs):=by
      show _=_;rw[←U];simp only[Bool.not_true,Bool.not_false,Bool.false_and,Bool.true_and,Bool.true_or,Bool.false_or,hE,if_true,if_false,Bool.false_eq_true,List.nil_append,List.append_assoc,List.cons_append]
     clear U;have hW:Below wr.heap.size wr wr.drew:=(Below.refl _ _).drew;have E:Nonempty (Lat wr):=⟨⟨wr,Below.refl _ _⟩⟩
     go_wp2_with fail
     refine z0d (S:=fun w'=>∃u:Lat wr,w'=u.val) (by kernel_rfl) ?_;refine sgr [(0,12)] 0 (by kernel_rfl) ⟨⟨_,hW⟩,rfl⟩ ?_;simp only[pkE];repeat go_big_quiet_step (fail)
     refine wpQuiet_nil ?_;refine z0h (by kernel_rfl) ?_;replace ho:=z0c ho hW;replace hb:=hb.trans (hW.mono y);have x:=H y hW.size;replace y:=x;clear hW E x;generalize wr.drew=u1 at ho hb y;have d0:=z0a ((hb.cell (p:=⟨b,M+k*2,none⟩) O).trans N);have d1:=z0a ((hb.cell (p:=⟨w.heap.size,0,none⟩) T).trans V);have hW:Below u1.heap.size u1 u1.drew:=(Below.refl _ _).drew;have E:Nonempty (Lat u1):=⟨⟨u1,Below.refl _ _⟩⟩
     go_wp2_with fail
     refine z0d (S:=fun w'=>∃u:Lat u1,w'=u.val) (by kernel_rfl) ?_;refine sgr [(0,8)] 0 (by kernel_rfl) ⟨⟨_,hW⟩,rfl⟩ ?_;simp only[pkE];repeat go_big_quiet_step (fail)
     refine wpQuiet_nil ?_;refine z0h (by kernel_rfl) ?_;replace ho:=z0c ho hW;replace hb:=hb.trans (hW.mono y);have x:=H y hW.size;replace y:=x;clear hW E x d0 d1;generalize u1.drew=u3 at ho hb y;have R:Hid (_∧_∧_):=⟨ho,hb,y⟩
     clear ho hb y
     go_wp2
     go_roundw
     case rel=>
      refine⟨k+1,true,L,by omega,by go_num,rfl,by first|(simp;omega)|omega,?_,R.out.2.1,R.out.2.2,HS⟩;have:=R.out.1;skip;simpa using this
     case measure=>simp[intOf];omega
  ·have an:k=xs.length:=by omega
   subst an;have HT:Hid (L++setR ⟨x0,x1⟩ d []=setR ⟨x0,x1⟩ false xs):=by
    have:=HI.out;rw[List.drop_length]at this;exact this
   clear HI
   cases d
   ·have ai:Hid (setR ⟨x0,x1⟩ false xs=L++[⟨x0,x1⟩]):=HT.out.symm;clear HT;have d0:=(hb.cell (p:=⟨w.heap.size,0,none⟩) T).trans V;have d1:=(hb.cell (p:=⟨w.heap.size,1,none⟩) T).trans ah;have I:Below (w.heap.size+1) wr (wr.alloc (.cells #[G K x0,G K x1] 173)):=(Below.refl _ _).alloc (by omega) _;have J:=ho.alloc (.cells #[G K x0,G K x1] 173)
    go_wp2_with (at_builtin;refine wpList_append_own _ rfl _ _ 53 rfl (w.heap.size+1) 173 i0 (.agg #[G K 0,G K 0]) 2 16 Tryz.underlying53 hi Y Z aa rfl (by decide) _ L.length (z0g L) rfl J ⟨wr.heap.size,0,none⟩ 1 1 [G K x0,G K x1] rfl rfl ?c1 ?c2 ?c3 ?c4 ?c5 ?_)
    all_goals try(case c1=>intro j u hj;match j,hj with|0,hj=>simp at hj;subst hj;simp[Addr.add]|1,hj=>simp at hj;subst hj;simp[Addr.add])
    all_goals try(case c2=>first|rfl|(intro u hu;simp at hu;rcases hu with rfl|rfl<;>rfl))
    all_goals try(case c3=>unfold maxLen;omega)
    all_goals try(case c4=>omega)
    all_goals try(case c5=>first|omega|(simp;omega))
    intro v' u1 C A _;obtain⟨a2,c2,rfl⟩:=z0f C;have D:Below (w.heap.size+1) wr u1:=I.grown A (by simp;omega) (fun j hj=>(ho.lt j hj).1);replace hb:=hb.trans D;have x:=H y D.size;replace y:=x;replace ho:=C;clear I A J C D x d0 d1
    go_wp2
    go_ret;rw[ai.out];refine⟨a2,c2,by simp,?_,X.trans (hb.mono (by omega))⟩;rw[z0J];simpa using z0r ho (by omega)
   ·have ai:Hid (setR ⟨x0,x1⟩ false xs=L):=by
     have:=HT.out;simp[setR]at this;exact this.symm
    clear HT
    go_wp2
    go_ret;rw[ai.out];exact⟨_,_,rfl,z0r ho (by omega),X.trans (hb.mono (by omega))⟩
def exC(xs:List ItemD)(i s q:Int)(zs:List ActD):Int:=if itemsF xs≠0 then itemsF xs else if txnF i s q zs≠0 then txnF i s q zs else(z0z xs zs).1
def exR(xs:List ItemD)(i s q:Int)(zs:List ActD):List ItemD:=if exC xs i s q zs=0 then(z0z xs zs).2 else []
def z52(zs:List ActD):Int:=(zs.getD (zs.length-1) z0e).key
def exV(xs:List ItemD)(i s q:Int)(zs:List ActD):Int:=if exC xs i s q zs=0 then valI (z0z xs zs).2 (z52 zs)else 0
theorem q6t{xs:List ItemD}{i s q:Int}{zs:List ActD}(h:itemsF xs≠0):exC xs i s q zs=itemsF xs∧exR xs i s q zs=[]∧exV xs i s q zs=0:=by
 have e:exC xs i s q zs=itemsF xs:=if_pos h;exact⟨e,by simp[exR,e,h],by simp[exV,e,h]⟩
theorem q5y{xs:List ItemD}{i s q:Int}{zs:List ActD}(h:itemsF xs=0)(h2:txnF i s q zs≠0):exC xs i s q zs=txnF i s q zs∧exR xs i s q zs=[]∧exV xs i s q zs=0:=by
 have e:exC xs i s q zs=txnF i s q zs:=by simp[exC,h,h2]
 exact⟨e,by simp[exR,e,h2],by simp[exV,e,h2]⟩
theorem q5z{xs:List ItemD}{i s q:Int}{zs:List ActD}(h:itemsF xs=0)(h2:txnF i s q zs=0)(h3:(z0z xs zs).1≠0):exC xs i s q zs=(z0z xs zs).1∧exR xs i s q zs=[]∧exV xs i s q zs=0:=by
 have e:exC xs i s q zs=(z0z xs zs).1:=by simp[exC,h,h2]
 exact⟨e,by simp[exR,e,h3],by simp[exV,e,h3]⟩
theorem q6P{xs:List ItemD}{i s q:Int}{zs:List ActD}(h:itemsF xs=0)(h2:txnF i s q zs=0)(h3:(z0z xs zs).1=0):exC xs i s q zs=0∧exR xs i s q zs=(z0z xs zs).2∧exV xs i s q zs=valI (z0z xs zs).2 (z52 zs):=by
 have e:exC xs i s q zs=0:=by simp[exC,h,h2,h3]
 exact⟨e,by simp[exR,e],by simp[exV,e]⟩
theorem z1V(xs:List ItemD)(a:ActD)(r:List ActD):z0z xs (a::r)=if actC xs a=0 then z0z (actN xs a) r else(actC xs a,[]):=rfl
theorem z39{zs:List ActD}{k:Nat}(h:k<zs.length):zs.drop k=zs.getD k z0e::zs.drop (k+1):=by
 have e:zs.getD k z0e=zs[k]:=by simp[List.getD,h]
 rw[List.drop_eq_getElem_cons h,e]
theorem z54(a:Option Addr)(cap:Nat)(xs:List ItemD)(i s q:Int)(ta:Option Addr)(tc:Nat)(zs:List ActD)(w:World)(h:ItemRow w a xs)(ht:ActRow w ta zs)(hl:xs.length≤1048576)(av:zs.length≤1048576):
  Calls Tryz.prog 211 #[Q a xs.length cap,.agg #[G K i,G K s,G K q,Q ta zs.length tc]] w fun e w'=>∃b c,e=.returned (.agg #[G K (exC xs i s q zs),G K (exV xs i s q zs),.slice b (exR xs i s q zs).length c])∧
   w'.ownsRow w.heap.size 173 2 (.slice b (exR xs i s q zs).length c) (exR xs i s q zs).length (z0g (exR xs i s q zs))∧Below w.heap.size w w':=by
 have hF:=fun w h=>z3W a cap xs w h hl
 have hT:=fun w h=>z2C i s q ta tc zs w h av
 have d:Below w.heap.size w ((w.alloc (.cells #[G K i,G K s,G K q,Q ta zs.length tc] 158)).alloc (.cells #[G K 0,G K 0,Q none 0 0] 282)):=by go_grown
 have B0:=Blk.new (w.alloc (.cells #[G K i,G K s,G K q,Q ta zs.length tc] 158)) 282 #[G K 0,G K 0,Q none 0 0];have Bt:=(Blk.new w 158 #[G K i,G K s,G K q,Q ta zs.length tc]).below (w':=(w.alloc (.cells #[G K i,G K s,G K q,Q ta zs.length tc] 158)).alloc (.cells #[G K 0,G K 0,Q none 0 0] 282)) (by go_grown);rw[World.size_alloc]at B0;by_cases h0:itemsF xs=0
 case neg=>
  obtain⟨e1,e2,e3⟩:=q6t (i:=i) (s:=s) (q:=q) (zs:=zs) h0;rw[e1,e2,e3];have L:(itemsF xs !=0)=true:=by simpa using h0
  clear h0 e1 e2 e3;generalize itemsF xs=r at hF L;go_enter func211,ntmps211
  go_wp2_with fail
  generalize (w.alloc (.cells #[G K i,G K s,G K q,Q ta zs.length tc] 158)).alloc (.cells #[G K 0,G K 0,Q none 0 0] 282)=W0 at d B0 Bt;refine(hF _ (h.below d)).mono ?_;rintro e w1 ⟨rfl,hb⟩;replace B0:=B0.below hb;replace d:=d.trans (hb.mono d.size);obtain⟨p0,p1,p2⟩:=B0.cel3;obtain⟨f0,f1,f2⟩:=B0.frz3;have M:=B0.lt;clear hb B0 Bt
  go_wp2
  refine bodyPost_ret (v:=.agg #[G K r,G K 0,Q none 0 0]) (by simp[results,results211,go_sem,p0,p1,p2]) rfl ⟨_,_,rfl,World.ownsRow_nil _ _ _ _,?_⟩;repeat' (refine Below.setCell ?_ (by dsimp only;omega) _)
  exact d
 by_cases h2:txnF i s q zs=0
 case neg=>
  obtain⟨e1,e2,e3⟩:=q5y h0 h2;rw[e1,e2,e3];have L:(txnF i s q zs !=0)=true:=by simpa using h2
  rw[h0]at hF;clear h0 h2 e1 e2 e3;generalize txnF i s q zs=r at hT L;go_enter func211,ntmps211
  go_wp2_with fail
  generalize (w.alloc (.cells #[G K i,G K s,G K q,Q ta zs.length tc] 158)).alloc (.cells #[G K 0,G K 0,Q none 0 0] 282)=W0 at d B0 Bt;refine(hF _ (h.below d)).mono ?_;rintro e w1 ⟨rfl,hb⟩;replace B0:=B0.below hb;replace Bt:=Bt.below hb;replace d:=d.trans (hb.mono d.size);obtain⟨q0,q1,q2,q3⟩:=Bt.cel4;clear hb
  go_wp2_with fail
  clear q0 q1 q2 q3 Bt;refine(hT _ (ht.below d)).mono ?_;rintro e w2 ⟨rfl,hb⟩;replace B0:=B0.below hb;replace d:=d.trans (hb.mono d.size);obtain⟨p0,p1,p2⟩:=B0.cel3;obtain⟨f0,f1,f2⟩:=B0.frz3;have M:=B0.lt;clear hb B0
  go_wp2
  refine bodyPost_ret (v:=.agg #[G K r,G K 0,Q none 0 0]) (by simp[results,results211,go_sem,p0,p1,p2]) rfl ⟨_,_,rfl,World.ownsRow_nil _ _ _ _,?_⟩;repeat' (refine Below.setCell ?_ (by dsimp only;omega) _)
  exact d
 obtain⟨h8,g⟩:=z37 h0;obtain⟨⟨aD,aE⟩,X⟩:=z04 h2;have HB:Hid ((z0z xs zs).1≠0→exC xs i s q zs=(z0z xs zs).1∧exR xs i s q zs=[]∧exV xs i s q zs=0):=fun h3=>q5z h0 h2 h3
 have HK:Hid ((z0z xs zs).1=0→exC xs i s q zs=0∧exR xs i s q zs=(z0z xs zs).2∧exV xs i s q zs=valI (z0z xs zs).2 (z52 zs)):=fun h3=>q6P h0 h2 h3
 have HA:Hid (∀a∈zs,actF a=0):=X;have an:=fun w h=>z50 a cap xs w h h8 g
 rw[h0]at hF;rw[h2]at hT;clear h0 h2 X;go_enter func211,ntmps211
 go_wp2_with fail
 generalize (w.alloc (.cells #[G K i,G K s,G K q,Q ta zs.length tc] 158)).alloc (.cells #[G K 0,G K 0,Q none 0 0] 282)=W0 at d B0 Bt;refine(hF _ (h.below d)).mono ?_;rintro e w1 ⟨rfl,hb⟩;replace B0:=B0.below hb;replace Bt:=Bt.below hb;replace d:=d.trans (hb.mono d.size);obtain⟨q0,q1,q2,q3⟩:=Bt.cel4;clear hb
 go_wp2_with fail
 clear q0 q1 q2 q3;refine(hT _ (ht.below d)).mono ?_;rintro e w2 ⟨rfl,hb⟩;replace B0:=B0.below hb;replace Bt:=Bt.below hb;replace d:=d.trans (hb.mono d.size);clear hb
 go_wp2_with fail
 refine(an _ (h.below d)).mono ?_;rintro e w3 ⟨rfl,hS,hb⟩;have am:=B0.lt;have ax:=Bt.lt;replace B0:=B0.below hb;replace Bt:=Bt.below hb;have ay:=ht.below d;replace ht:=ht.below (d.trans (hb.mono d.size));have aB:=hS.lt;have ah:Below w.heap.size w w3:=d.trans (hb.mono d.size);have Z:=d.size;have Y:∀k,k<zs.length→∃b A,ta=some ⟨b,A,none⟩∧b<w2.heap.size:=fun k hk=>by
  obtain⟨b,A,e,J,_⟩:=(ay:ActRow w2 ta zs).at k hk;exact⟨b,A,e,J⟩
 clear hb an hT hF h;generalize w2.heap.size=sb at*;have q3:=Bt.cell 3 _ rfl
 go_wp2
 clear q3;have ag:=hS;clear hS;go_loopw[29] (fun j wr=>∃ (k:Nat) (y:List ItemD),k≤zs.length∧j=G K k∧ShelfAt wr sb y∧y.length≤8∧Hid (Good y∧z0z y (zs.drop k)=z0z xs zs)∧Below sb w3 wr) (fun j _=>zs.length-(intOf j).toNat)
 case atStart=>exact⟨0,xs,Nat.zero_le _,rfl,ag,h8,⟨g,by simp⟩,Below.refl _ _⟩
 case round=>
  clear ag;obtain⟨k,y,hk,rfl,hS,ae,HG,hb⟩:=hrel;have aC:=hS.lt;by_cases M:k<zs.length
  ·obtain⟨b,A,rfl,J⟩:=Y k M;obtain⟨b',ap,e,_,E,D,I⟩:=ht.at k M;simp only[Option.some.injEq,Addr.mk.injEq,and_true]at e;obtain⟨rfl,rfl⟩:=e;replace E:wr.cell? ⟨b,A+k*3,none⟩=_:=(hb.cell (p:=⟨b,A+k*3,none⟩) J).trans E;replace D:wr.cell? ⟨b,A+k*3+1,none⟩=_:=(hb.cell (p:=⟨b,A+k*3+1,none⟩) J).trans D;replace I:wr.cell? ⟨b,A+k*3+2,none⟩=_:=(hb.cell (p:=⟨b,A+k*3+2,none⟩) J).trans I;have V:=HA.out (zs.getD k z0e) (by simp[List.getD,M]);have C:=fun w h=>q4J sb y (zs.getD k z0e).kind (zs.getD k z0e).key (zs.getD k z0e).val w h ae HG.out.1 V
   change∀w h,Calls _ _ _ _ fun e w'=>e=.returned (G K (actC y (zs.getD k z0e)))∧(actC y (zs.getD k z0e)=0→ShelfAt w' sb (actN y (zs.getD k z0e)))∧_ at C
   have HD:Hid (z0z y (zs.getD k z0e::zs.drop (k+1))=z0z xs zs):=by
    have:=HG.out.2;rw[z39 M]at this;exact this
   by_cases hF:actC y (zs.getD k z0e)=0
   ·obtain⟨ak,al⟩:=z3b ae HG.out.1 V hF;have af:Hid (Good (actN y (zs.getD k z0e))∧z0z (actN y (zs.getD k z0e)) (zs.drop (k + 1))=z0z xs zs):=⟨al,by
     have:=HD.out;rw[z1V,if_pos hF]at this;exact this⟩
    rw[hF]at C;clear HD al HG V hF;generalize actN y (zs.getD k z0e)=nx at C af ak;generalize zs.getD k z0e=z at E D I C;obtain⟨z0,z1,z2⟩:=z;dsimp only at E D I C;have N:ShelfAt (wr.alloc (.cells #[G K z0,G K z1,G K z2] 210)) sb y:=hS.below (by go_grown);have T:Below sb w3 (wr.alloc (.cells #[G K z0,G K z1,G K z2] 210)):=hb.alloc (by omega) _
    go_wp2_with fail
    refine(C _ N).mono ?_;rintro e w5 ⟨rfl,hN,hO⟩;have W:=z4g T hO (Nat.le_refl _) (by simp;omega);have ar:=hN (by first|trivial|rfl);clear C hN hO T N hS hb
    go_wp2
    go_roundw
    case rel=>exact⟨k+1,nx,by omega,by go_num,ar,ak,af,W⟩
    case measure=>simp[intOf];omega
   ·have HC:Hid (z0z xs zs=(actC y (zs.getD k z0e),[])):=by
     have:=HD.out;rw[z1V,if_neg hF]at this;exact this.symm
    have HE:Hid (exC xs i s q zs=actC y (zs.getD k z0e)∧exR xs i s q zs=[]∧exV xs i s q zs=0):=by
     have:=HB.out (by rw[HC.out];exact hF);rw[HC.out]at this;exact this
    have L:(actC y (zs.getD k z0e) !=0)=true:=by simpa using hF
    clear HD HG V hF HC;generalize actC y (zs.getD k z0e)=r at C HE L;generalize zs.getD k z0e=z at E D I C;obtain⟨z0,z1,z2⟩:=z;dsimp only at E D I C;have N:ShelfAt (wr.alloc (.cells #[G K z0,G K z1,G K z2] 210)) sb y:=hS.below (by go_grown);have T:Below sb w3 (wr.alloc (.cells #[G K z0,G K z1,G K z2] 210)):=hb.alloc (by omega) _
    go_wp2_with fail
    refine(C _ N).mono ?_;rintro e w5 ⟨rfl,_,hO⟩;have W:=z4g T hO (Nat.le_refl _) (by simp;omega);replace B0:Blk w5 _ _ _:=(W.block _ am).trans B0;obtain⟨p0,p1,p2⟩:=B0.cel3;obtain⟨f0,f1,f2⟩:=B0.frz3;have az:=B0.lt;clear C hO T N hS hb B0
    go_wp2
    refine bodyPost_ret (v:=.agg #[G K r,G K 0,Q none 0 0]) (by simp[results,results211,go_sem,p0,p1,p2]) rfl ?_;rw[HE.out.1,HE.out.2.1,HE.out.2.2];refine⟨_,_,rfl,World.ownsRow_nil _ _ _ _,?_⟩;repeat' (refine Below.setCell ?_ (by dsimp only;omega) _)
    exact ah.trans (W.mono Z)
  ·have aj:k=zs.length:=by omega
   have HC:Hid (z0z xs zs=(0,y)):=by
    have:=HG.out.2;rw[aj,List.drop_length]at this;exact this.symm
   have HE:Hid (exC xs i s q zs=0∧exR xs i s q zs=y∧exV xs i s q zs=valI y (z52 zs)):=by
    have:=HK.out (by rw[HC.out]);rw[HC.out]at this;exact this
   have hg:=HG.out.1;subst aj;obtain⟨n,hn⟩:∃n,zs.length=n+1:=⟨zs.length-1,by omega⟩
   obtain⟨b,A,rfl,J⟩:=Y n (by omega);obtain⟨b',ap,e,_,E,D,I⟩:=ht.at n (by omega);simp only[Option.some.injEq,Addr.mk.injEq,and_true]at e;obtain⟨rfl,rfl⟩:=e;replace D:wr.cell? ⟨b,A+n*3+1,none⟩=_:=(hb.cell (p:=⟨b,A+n*3+1,none⟩) J).trans D;have ai:=(z2f (HA.out (zs.getD n z0e) (by simp[List.getD,show n<zs.length by omega]))).2.1;have HL:Hid (z52 zs=(zs.getD n z0e).key):=by
    show _=_;unfold z52;rw[hn,Nat.add_sub_cancel]
   generalize (zs.getD n z0e).key=kk at D ai HL;have HV:Hid (exV xs i s q zs=valI y kk):=by
    have:=HE.out.2.2;rw[HL.out]at this;exact this
   generalize ao:valI y kk=vv at HV;have aq:Hid (valI y kk=vv):=ao;replace B0:Blk wr _ _ _:=(hb.block _ am).trans B0;replace Bt:Blk wr _ _ _:=(hb.block _ ax).trans Bt;have q3:=Bt.cell 3 _ rfl;clear E I HC HG HL ao
   go_wp2_with fail
   clear q3 D Bt;refine z0d (S:=fun w'=>∃u:KeepP (fun u=>ShelfAt u sb y),w'=u.val) (by kernel_rfl) ?_;have L:Nonempty (KeepP (fun u=>ShelfAt u sb y)):=⟨⟨wr,hS⟩⟩
   have U:ShelfAt wr.drew sb y:=hS;refine sgr [(0,2),(3,1)] 4 (by kernel_rfl) ⟨⟨wr.drew,U⟩,rfl⟩ ?_;simp only[pkE];repeat go_big_quiet_step (fail)
   refine wpQuiet_nil ?_;refine qta 2 (some 52) (G K vv) 3 (by kernel_rfl) ?hrun ⟨⟨wr.drew,U⟩,rfl⟩ ?_
   case hrun=>
    intro u hu;obtain⟨x,rfl⟩:=hu;obtain⟨c,hr,ab,_⟩:=World.ownsMap.lookup_int x.isP z3r Tryz.underlying301 Tryz.underlying2 (z4C _) (z6V (k:=kk) (by omega));rw[z7J,aq.out]at ab;simp only[DataW.lit.injEq,Lit.int.injEq,true_and]at ab;subst ab;show some (Sem.run Tryz.prog (do let v←Instr.lookup 301 (.map (some sb)) (.int .i64 kk) false;pure (Next.value v)) x.val)=_;rw[Sem.run_bind,hr];rfl
   simp only[Act.put,pgE,pjE];refine cla 4 (some 54) 238 #[.map (some sb)] 2 (by kernel_rfl) ?_;refine(q26 sb y _ U ae hg).mono ?_;rintro e w6 ⟨ra,rc,rfl,ro,O⟩;have aa:=U.below O;refine⟨_,rfl,⟨⟨w6,aa⟩,rfl⟩,?_⟩;simp only[Act.put,pgE,pjE];refine sgr [(5,1)] 1 (by kernel_rfl) ⟨⟨w6,aa⟩,rfl⟩ ?_;simp only[pkE];repeat go_big_quiet_step (fail)
   refine wpQuiet_nil ?_;refine ona 6 0 rfl (by kernel_rfl) ?_;have aw:wr.drew.heap.size=wr.heap.size:=rfl;rw[aw]at ro O;have ad:Below wr.heap.size wr wr.drew:=(Below.refl _ _).drew;replace B0:=B0.below (ad.trans O);have au:Below w.heap.size w w6:=(ah.trans (hb.mono Z)).trans ((ad.trans O).mono (by omega));obtain⟨p0,p1,p2⟩:=B0.cel3;obtain⟨f0,f1,f2⟩:=B0.frz3;have aA:=B0.lt;clear B0 O ad L
   go_wp2
   refine ThenGo.to ⟨⟨⟨_,World.ownsMap.setCell (World.ownsMap.setCell (World.ownsMap.setCell aa (by dsimp only;omega) _) (by dsimp only;omega) _) (by dsimp only;omega) _⟩,rfl⟩,?_⟩;refine z0h (by kernel_rfl) ?_
   go_wp2
   refine bodyPost_ret (v:=.agg #[G K 0,G K vv,Q ra y.length rc]) (by simp[results,results211,go_sem,p0,p1,p2]) rfl ?_;rw[HE.out.1,HE.out.2.1,HV.out];refine⟨_,_,rfl,?_,?_⟩
   ·refine z0r (base:=wr.heap.size) ?_ (by omega);repeat' (refine ownsRow_setCell_below ?_ (by dsimp only;omega) _)
    exact ro
   ·repeat' (refine Below.setCell ?_ (by dsimp only;omega) _)
    exact au
end
end Go.Proofs.YtjjoahhnkpjolaaGreatDoor
