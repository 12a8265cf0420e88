/- Texts joined,with what the laws reach alone. -/
import Derived.Test.YtlkpdgjnhkjpjaaGreatDoorSCAV
set_option linter.unusedVariables false
set_option linter.unusedSimpArgs false
set_option maxRecDepth 100000
set_option maxHeartbeats 4000000
namespace Go.Proofs.YtlkpdgjnhkjpjaaGreatDoor
open Go.RowKit Go.BigFrame
section
open Go.Maps
theorem z6b(xs:List ItemD)(q:Int)(k:Nat)(hk:k<xs.length):delI (xs.take (k+1)) q=delI (xs.take k) q++(if((xs.getD k z0b).key==q)=true then []else [xs.getD k z0b]):=by
 have e:xs.getD k z0b=xs[k]:=by simp[List.getD,hk]
 unfold delI;rw[List.take_succ_eq_append_getElem hk,List.filter_append,e]
 congr 1
 cases hp:(xs[k].key==q)<;>simp[hp]
theorem q2i{zs:List ItemD}{k:Nat}(h:k<zs.length):zs.drop k=zs.getD k z0b::zs.drop (k+1):=by
 have e:zs.getD k z0b=zs[k]:=by simp[List.getD,h]
 rw[List.drop_eq_getElem_cons h,e]
theorem z0D(xs:List ItemD)(z:ItemD):z0c (xs++[z])=z0c xs++[.int .i64 z.key,.int .i64 z.val]:=by simp[z0c,ItemD.cells]
theorem q0S(a:Option Addr)(cap:Nat)(xs:List ItemD)(q:Int)(w:World)(h:ItemRow w a xs)(hl:xs.length≤100):
  Calls Tryz.prog 268 #[.slice a xs.length cap,.int .i64 q] w fun e w'=>∃b c,e=.returned (.slice b (delI xs q).length c)∧
   w'.ownsRow w.heap.size 119 2 (.slice b (delI xs q).length c) (delI xs q).length (z0c (delI xs q))∧Below w.heap.size w w':=by
 obtain⟨i0,hi,X,Y,Z⟩:=info_parts z1h;go_enter Tryz.func268,Tryz.ntmps268
 go_wp2
 go_loopw[5,6] (fun v j wr=>∃k:Nat,k≤xs.length∧j=.int .i64 k∧wr.ownsRow w.heap.size 119 2 v (delI (xs.take k) q).length (z0c (delI (xs.take k) q))∧Below w.heap.size w wr) (fun _ j _=>xs.length-(intOf j).toNat)
 case atStart=>exact⟨0,Nat.zero_le _,rfl,by rw[List.take_zero];exact World.ownsRow_lit w #[] 0 (Nat.le_refl _) (by decide) rfl,by go_grown⟩
 case round=>
  obtain⟨k,hk,rfl,ho,hb⟩:=hrel;obtain⟨a1,c1,rfl⟩:=z0g ho;have U:=hb.size;by_cases O:k<xs.length
  ·obtain⟨b,M,rfl,L,d,A⟩:=h.at k O;have hs:=z6b xs q k O;have V:(delI (xs.take k) q).length≤100:=by have:=z5B (xs.take k) q;simp at this;omega
   generalize delI (xs.take k) q=F at ho hs V
   cases he:((xs.getD k z0b).key==q)
   ·have HS:Hid (delI (xs.take (k+1)) q=F++[xs.getD k z0b]):=by
     show _=_;rw[hs,he];simp
    have C:((xs.getD k z0b).key !=q)=true:=by unfold bne;rw[he];rfl
    clear hs;generalize xs.getD k z0b=z at d A he HS C;obtain⟨z0,z1⟩:=z;dsimp only at d A he C;have d0:=(hb.cell (p:=⟨b,M+k*2,none⟩) L).trans d;have d1:=(hb.cell (p:=⟨b,M+k*2+1,none⟩) L).trans A;have N:Below w.heap.size wr (wr.alloc (.cells #[.int .i64 z0,.int .i64 z1] 119)):=(Below.refl _ _).alloc (by omega) _;have T:=ho.alloc (.cells #[.int .i64 z0,.int .i64 z1] 119)
    go_wp2_with (at_builtin;refine wpList_append_own _ rfl _ _ 26 rfl w.heap.size 119 i0 (.agg #[.int .i64 0,.int .i64 0]) 2 16 Tryz.underlying26 hi X Y Z rfl (by decide) _ F.length (z0c F) rfl T ⟨wr.heap.size,0,none⟩ 1 1 [.int .i64 z0,.int .i64 z1] rfl rfl ?c1 ?c2 ?c3 ?c4 ?c5 ?_)
    all_goals try(case c1=>intro j u hj;match j,hj with|0,hj=>simp at hj;subst hj;simp[Addr.add]|1,hj=>simp at hj;subst hj;simp[Addr.add])
    all_goals try(case c2=>first|rfl|(intro u hu;simp at hu;rcases hu with rfl|rfl<;>rfl))
    all_goals try(case c3=>unfold maxLen;omega)
    all_goals try(case c4=>omega)
    all_goals try(case c5=>first|omega|(simp;omega))
    intro v' w3 y x _;obtain⟨a2,c2,rfl⟩:=z0g y;have J:Below w.heap.size wr w3:=N.grown x (by simp;omega) (fun j hj=>(ho.lt j hj).1);replace hb:=hb.trans J;have I:=Nat.le_trans U J.size;replace U:=I;replace ho:=y;clear N x T y J I d0 d1;have R:Hid (_∧_):=⟨ho,hb⟩
    clear ho hb
    go_wp2
    go_roundw
    case rel=>
     refine⟨k+1,by omega,by go_num,?_,R.out.2⟩;rw[HS.out,z0D];simpa using R.out.1
    case measure=>simp[intOf];omega
   ·have HS:Hid (delI (xs.take (k+1)) q=F):=by
     show _=_;rw[hs,he];simp
    have C:((xs.getD k z0b).key !=q)=false:=by unfold bne;rw[he];rfl
    clear hs;have d0:=(hb.cell (p:=⟨b,M+k*2,none⟩) L).trans d;generalize (xs.getD k z0b).key=z0 at d0 he C;have R:Hid (_∧_):=⟨ho,hb⟩
    clear ho hb d A
    go_wp2
    go_roundw
    case rel=>exact⟨k+1,by omega,by go_num,by rw[HS.out];exact R.out.1,R.out.2⟩
    case measure=>simp[intOf];omega
  ·have W:k=xs.length:=by omega
   subst W;rw[List.take_length]at ho
   go_wp2
   go_ret;simp only[List.take_length];exact⟨_,_,rfl,ho,hb⟩
theorem q2j(x y:ItemD)(r:List ItemD)(d:Bool):setR x d (y::r)=(if !d && decide (x.key≤y.key)then [x]else [])++((if y.key==x.key then []else [y])++setR x (d||decide (x.key≤y.key)) r):=rfl
theorem q2k(a:Option Addr)(cap:Nat)(xs:List ItemD)(x0 x1:Int)(w:World)(h:ItemRow w a xs)(hl:xs.length≤100):
  Calls Tryz.prog 257 #[.slice a xs.length cap,.agg #[.int .i64 x0,.int .i64 x1]] w fun e w'=>∃b c,e=.returned (.slice b (setR ⟨x0,x1⟩ false xs).length c)∧
   w'.ownsRow w.heap.size 119 2 (.slice b (setR ⟨x0,x1⟩ false xs).length c) (setR ⟨x0,x1⟩ false xs).length (z0c (setR ⟨x0,x1⟩ false xs))∧Below w.heap.size w w':=by
 obtain⟨i0,hi,aa,ab,ad⟩:=info_parts z1h;have Z:Below w.heap.size w (w.alloc (.cells #[.int .i64 x0,.int .i64 x1] 119)):=by go_grown
 have X:(w.alloc (.cells #[.int .i64 x0,.int .i64 x1] 119)).cell? ⟨w.heap.size,0,none⟩=some (.int .i64 x0):=by simp
 have aj:(w.alloc (.cells #[.int .i64 x0,.int .i64 x1] 119)).cell? ⟨w.heap.size,1,none⟩=some (.int .i64 x1):=by simp
 have V:w.heap.size<w.heap.size+1:=Nat.lt_succ_self _;have ah:Below (w.heap.size+1) (w.alloc (.cells #[.int .i64 x0,.int .i64 x1] 119)) ((w.alloc (.cells #[.int .i64 x0,.int .i64 x1] 119)).alloc (.cells #[] 119)):=(Below.refl _ _).alloc (by simp) _;have al:((w.alloc (.cells #[.int .i64 x0,.int .i64 x1] 119)).alloc (.cells #[] 119)).ownsRow (w.heap.size+1) 119 2 (.slice (some ⟨w.heap.size+1,0,none⟩) 0 0) 0 []:=by
  have:=World.ownsRow_lit (size:=2) (e:=119) (w.alloc (.cells #[.int .i64 x0,.int .i64 x1] 119)) #[] 0 (Nat.le_refl _) (by decide) rfl;rw[World.size_alloc]at this;exact this
 have am:w.heap.size+1≤((w.alloc (.cells #[.int .i64 x0,.int .i64 x1] 119)).alloc (.cells #[] 119)).heap.size:=by simp
 go_enter Tryz.func257,Tryz.ntmps257
 go_wp2
 generalize (w.alloc (.cells #[.int .i64 x0,.int .i64 x1] 119)).alloc (.cells #[] 119)=WE at ah al am;generalize w.alloc (.cells #[.int .i64 x0,.int .i64 x1] 119)=W0 at Z X aj ah;have ao:∀b,b<w.heap.size→b<w.heap.size+1:=fun b hb=>by omega
 have aq:=Z.size;go_loopw[5,6,7] (fun v dv j wr=>∃ (k:Nat) (d:Bool) (L:List ItemD),k≤xs.length∧j=.int .i64 k∧dv=.bool d∧L.length≤2*k∧wr.ownsRow (w.heap.size+1) 119 2 v L.length (z0c L)∧Below (w.heap.size+1) W0 wr∧w.heap.size+1≤wr.heap.size∧Hid (L++setR ⟨x0,x1⟩ d (xs.drop k)=setR ⟨x0,x1⟩ false xs)) (fun _ _ j _=>xs.length-(intOf j).toNat)
 case atStart=>exact⟨0,false,[],Nat.zero_le _,rfl,rfl,by simp,al,ah,am,by show _=_;simp⟩
 case round=>
  clear al ah am;obtain⟨k,d,L,hk,rfl,rfl,ar,ho,hb,y,HI⟩:=hrel;obtain⟨a1,c1,rfl⟩:=z0g ho;by_cases an:k<xs.length
  ·obtain⟨b,O,rfl,ag,T,Y⟩:=h.at k an;replace T:W0.cell? _=_:=(Z.cell (p:=⟨b,O+k*2,none⟩) ag).trans T;replace Y:W0.cell? _=_:=(Z.cell (p:=⟨b,O+k*2+1,none⟩) ag).trans Y;have U:=ao b ag;have W:=HI.out;rw[q2i an,q2j]at W;generalize xs.getD k z0b=z at T Y W;obtain⟨z0,z1⟩:=z;dsimp only at T Y W;clear HI
   cases hE:(z0==x0)
   ·have J:(z0 !=x0)=true:=by simp[bne,hE]
    cases d
    ·by_cases ai:x0≤z0
     ·have hG:decide (x0≤z0)=true:=by simp[ai]
      have HS:Hid ((L++[⟨x0,x1⟩]++[⟨z0,z1⟩])++setR ⟨x0,x1⟩ true (xs.drop (k+1))=setR ⟨x0,x1⟩ false xs):=by
       show _=_;rw[←W];simp only[Bool.not_true,Bool.not_false,Bool.false_and,Bool.true_and,Bool.true_or,Bool.false_or,hE,hG,if_true,if_false,Bool.false_eq_true,List.nil_append,List.append_assoc,List.cons_append]
      clear W;have d0:=z0f ((hb.cell (p:=⟨b,O+k*2,none⟩) U).trans T);have d1:=z0f ((hb.cell (p:=⟨w.heap.size,0,none⟩) V).trans X);have hW:Below wr.heap.size wr wr.drew:=(Below.refl _ _).drew;have J:Nonempty (Lat wr):=⟨⟨wr,Below.refl _ _⟩⟩
      go_wp2_with fail
      refine z0e (S:=fun w'=>∃u:Lat wr,w'=u.val) (by kernel_rfl) ?_;refine sgr [(0,12)] 0 (by kernel_rfl) ⟨⟨_,hW⟩,rfl⟩ ?_;simp only[pkE];repeat go_big_quiet_step (fail)
      refine wpQuiet_nil ?_;refine z0i (by kernel_rfl) ?_;replace ho:=z0a ho hW;replace hb:=hb.trans (hW.mono y);have x:=Nat.le_trans y hW.size;replace y:=x;clear hW J x d0 d1;generalize wr.drew=u1 at ho hb y;have d0:=(hb.cell (p:=⟨w.heap.size,0,none⟩) V).trans X;have d1:=(hb.cell (p:=⟨w.heap.size,1,none⟩) V).trans aj;have M:Below (w.heap.size+1) u1 (u1.alloc (.cells #[.int .i64 x0,.int .i64 x1] 119)):=(Below.refl _ _).alloc (by omega) _;have N:=ho.alloc (.cells #[.int .i64 x0,.int .i64 x1] 119)
      go_wp2_with (at_builtin;refine wpList_append_own _ rfl _ _ 26 rfl (w.heap.size+1) 119 i0 (.agg #[.int .i64 0,.int .i64 0]) 2 16 Tryz.underlying26 hi aa ab ad rfl (by decide) _ L.length (z0c L) rfl N ⟨u1.heap.size,0,none⟩ 1 1 [.int .i64 x0,.int .i64 x1] rfl rfl ?c1 ?c2 ?c3 ?c4 ?c5 ?_)
      all_goals try(case c1=>intro j u hj;match j,hj with|0,hj=>simp at hj;subst hj;simp[Addr.add]|1,hj=>simp at hj;subst hj;simp[Addr.add])
      all_goals try(case c2=>first|rfl|(intro u hu;simp at hu;rcases hu with rfl|rfl<;>rfl))
      all_goals try(case c3=>unfold maxLen;omega)
      all_goals try(case c4=>omega)
      all_goals try(case c5=>first|omega|(simp;omega))
      intro v' u2 C A _;obtain⟨a2,c2,rfl⟩:=z0g C;have I:Below (w.heap.size+1) u1 u2:=M.grown A (by simp;omega) (fun j hj=>(ho.lt j hj).1);replace hb:=hb.trans I;have x:=Nat.le_trans y I.size;replace y:=x;replace ho:=C;clear M A N C I x d0 d1;replace ho:u2.ownsRow (w.heap.size+1) 119 2 (.slice a2 (L.length+1) c2) (L.length+1) (z0c (L++[⟨x0,x1⟩])):=by rw[z0D];simpa using ho
      generalize af:L++[(⟨x0,x1⟩:ItemD)]=L2 at ho HS;have ae:Hid (L2.length=L.length+1):=by
       show _=_;rw[←af];simp
      clear af;have d0:=z0f ((hb.cell (p:=⟨b,O+k*2,none⟩) U).trans T);have d1:=z0f ((hb.cell (p:=⟨w.heap.size,0,none⟩) V).trans X);have hW:Below u2.heap.size u2 u2.drew:=(Below.refl _ _).drew;have J:Nonempty (Lat u2):=⟨⟨u2,Below.refl _ _⟩⟩
      go_wp2_with fail
      refine z0e (S:=fun w'=>∃u:Lat u2,w'=u.val) (by kernel_rfl) ?_;refine sgr [(0,8)] 0 (by kernel_rfl) ⟨⟨_,hW⟩,rfl⟩ ?_;simp only[pkE];repeat go_big_quiet_step (fail)
      refine wpQuiet_nil ?_;refine z0i (by kernel_rfl) ?_;replace ho:=z0a ho hW;replace hb:=hb.trans (hW.mono y);have x:=Nat.le_trans y hW.size;replace y:=x;clear hW J x d0 d1;generalize u2.drew=u3 at ho hb y;have d0:=(hb.cell (p:=⟨b,O+k*2,none⟩) U).trans T;have d1:=(hb.cell (p:=⟨b,O+k*2+1,none⟩) U).trans Y;have M:Below (w.heap.size+1) u3 (u3.alloc (.cells #[.int .i64 z0,.int .i64 z1] 119)):=(Below.refl _ _).alloc (by omega) _;have N:=ho.alloc (.cells #[.int .i64 z0,.int .i64 z1] 119)
      go_wp2_with (at_builtin;refine wpList_append_own _ rfl _ _ 26 rfl (w.heap.size+1) 119 i0 (.agg #[.int .i64 0,.int .i64 0]) 2 16 Tryz.underlying26 hi aa ab ad rfl (by decide) _ (L.length+1) (z0c L2) rfl N ⟨u3.heap.size,0,none⟩ 1 1 [.int .i64 z0,.int .i64 z1] rfl rfl ?c1 ?c2 ?c3 ?c4 ?c5 ?_)
      all_goals try(case c1=>intro j u hj;match j,hj with|0,hj=>simp at hj;subst hj;simp[Addr.add]|1,hj=>simp at hj;subst hj;simp[Addr.add])
      all_goals try(case c2=>first|rfl|(intro u hu;simp at hu;rcases hu with rfl|rfl<;>rfl))
      all_goals try(case c3=>unfold maxLen;omega)
      all_goals try(case c4=>omega)
      all_goals try(case c5=>first|omega|(simp;omega))
      intro v' u4 C A _;obtain⟨a4,c4,rfl⟩:=z0g C;have I:Below (w.heap.size+1) u3 u4:=M.grown A (by simp;omega) (fun j hj=>(ho.lt j hj).1);replace hb:=hb.trans I;have x:=Nat.le_trans y I.size;replace y:=x;replace ho:=C;clear M A N C I x d0 d1;have R:Hid (_∧_∧_):=⟨ho,hb,y⟩
      clear ho hb y
      go_wp2
      go_roundw
      case rel=>
       refine⟨k+1,true,L2++[⟨z0,z1⟩],by omega,by go_num,rfl,by have:=ae.out;first|(simp;omega)|omega,?_,R.out.2.1,R.out.2.2,HS⟩;have:=R.out.1;rw[z0D];simpa[ae.out]using this
      case measure=>simp[intOf];omega
     ·have hG:decide (x0≤z0)=false:=by simp[ai]
      have HS:Hid ((L++[⟨z0,z1⟩])++setR ⟨x0,x1⟩ false (xs.drop (k+1))=setR ⟨x0,x1⟩ false xs):=by
       show _=_;rw[←W];simp only[Bool.not_true,Bool.not_false,Bool.false_and,Bool.true_and,Bool.true_or,Bool.false_or,hE,hG,if_true,if_false,Bool.false_eq_true,List.nil_append,List.append_assoc,List.cons_append]
      clear W;have d0:=z0f ((hb.cell (p:=⟨b,O+k*2,none⟩) U).trans T);have d1:=z0f ((hb.cell (p:=⟨w.heap.size,0,none⟩) V).trans X);have hW:Below wr.heap.size wr wr.drew:=(Below.refl _ _).drew;have J:Nonempty (Lat wr):=⟨⟨wr,Below.refl _ _⟩⟩
      go_wp2_with fail
      refine z0e (S:=fun w'=>∃u:Lat wr,w'=u.val) (by kernel_rfl) ?_;refine sgr [(0,12)] 0 (by kernel_rfl) ⟨⟨_,hW⟩,rfl⟩ ?_;simp only[pkE];repeat go_big_quiet_step (fail)
      refine wpQuiet_nil ?_;refine z0i (by kernel_rfl) ?_;replace ho:=z0a ho hW;replace hb:=hb.trans (hW.mono y);have x:=Nat.le_trans y hW.size;replace y:=x;clear hW J x d0 d1;generalize wr.drew=u1 at ho hb y;have d0:=z0f ((hb.cell (p:=⟨b,O+k*2,none⟩) U).trans T);have d1:=z0f ((hb.cell (p:=⟨w.heap.size,0,none⟩) V).trans X);have hW:Below u1.heap.size u1 u1.drew:=(Below.refl _ _).drew;have J:Nonempty (Lat u1):=⟨⟨u1,Below.refl _ _⟩⟩
      go_wp2_with fail
      refine z0e (S:=fun w'=>∃u:Lat u1,w'=u.val) (by kernel_rfl) ?_;refine sgr [(0,8)] 0 (by kernel_rfl) ⟨⟨_,hW⟩,rfl⟩ ?_;simp only[pkE];repeat go_big_quiet_step (fail)
      refine wpQuiet_nil ?_;refine z0i (by kernel_rfl) ?_;replace ho:=z0a ho hW;replace hb:=hb.trans (hW.mono y);have x:=Nat.le_trans y hW.size;replace y:=x;clear hW J x d0 d1;generalize u1.drew=u3 at ho hb y;have d0:=(hb.cell (p:=⟨b,O+k*2,none⟩) U).trans T;have d1:=(hb.cell (p:=⟨b,O+k*2+1,none⟩) U).trans Y;have M:Below (w.heap.size+1) u3 (u3.alloc (.cells #[.int .i64 z0,.int .i64 z1] 119)):=(Below.refl _ _).alloc (by omega) _;have N:=ho.alloc (.cells #[.int .i64 z0,.int .i64 z1] 119)
      go_wp2_with (at_builtin;refine wpList_append_own _ rfl _ _ 26 rfl (w.heap.size+1) 119 i0 (.agg #[.int .i64 0,.int .i64 0]) 2 16 Tryz.underlying26 hi aa ab ad rfl (by decide) _ L.length (z0c L) rfl N ⟨u3.heap.size,0,none⟩ 1 1 [.int .i64 z0,.int .i64 z1] rfl rfl ?c1 ?c2 ?c3 ?c4 ?c5 ?_)
      all_goals try(case c1=>intro j u hj;match j,hj with|0,hj=>simp at hj;subst hj;simp[Addr.add]|1,hj=>simp at hj;subst hj;simp[Addr.add])
      all_goals try(case c2=>first|rfl|(intro u hu;simp at hu;rcases hu with rfl|rfl<;>rfl))
      all_goals try(case c3=>unfold maxLen;omega)
      all_goals try(case c4=>omega)
      all_goals try(case c5=>first|omega|(simp;omega))
      intro v' u4 C A _;obtain⟨a4,c4,rfl⟩:=z0g C;have I:Below (w.heap.size+1) u3 u4:=M.grown A (by simp;omega) (fun j hj=>(ho.lt j hj).1);replace hb:=hb.trans I;have x:=Nat.le_trans y I.size;replace y:=x;replace ho:=C;clear M A N C I x d0 d1;have R:Hid (_∧_∧_):=⟨ho,hb,y⟩
      clear ho hb y
      go_wp2
      go_roundw
      case rel=>
       refine⟨k+1,false,L++[⟨z0,z1⟩],by omega,by go_num,rfl,by first|(simp;omega)|omega,?_,R.out.2.1,R.out.2.2,HS⟩;have:=R.out.1;rw[z0D];simpa using this
      case measure=>simp[intOf];omega
    ·have HS:Hid ((L++[⟨z0,z1⟩])++setR ⟨x0,x1⟩ true (xs.drop (k+1))=setR ⟨x0,x1⟩ false xs):=by
      show _=_;rw[←W];simp only[Bool.not_true,Bool.not_false,Bool.false_and,Bool.true_and,Bool.true_or,Bool.false_or,hE,if_true,if_false,Bool.false_eq_true,List.nil_append,List.append_assoc,List.cons_append]
     clear W;have hW:Below wr.heap.size wr wr.drew:=(Below.refl _ _).drew;have J:Nonempty (Lat wr):=⟨⟨wr,Below.refl _ _⟩⟩
     go_wp2_with fail
     refine z0e (S:=fun w'=>∃u:Lat wr,w'=u.val) (by kernel_rfl) ?_;refine sgr [(0,12)] 0 (by kernel_rfl) ⟨⟨_,hW⟩,rfl⟩ ?_;simp only[pkE];repeat go_big_quiet_step (fail)
     refine wpQuiet_nil ?_;refine z0i (by kernel_rfl) ?_;replace ho:=z0a ho hW;replace hb:=hb.trans (hW.mono y);have x:=Nat.le_trans y hW.size;replace y:=x;clear hW J x;generalize wr.drew=u1 at ho hb y;have d0:=z0f ((hb.cell (p:=⟨b,O+k*2,none⟩) U).trans T);have d1:=z0f ((hb.cell (p:=⟨w.heap.size,0,none⟩) V).trans X);have hW:Below u1.heap.size u1 u1.drew:=(Below.refl _ _).drew;have J:Nonempty (Lat u1):=⟨⟨u1,Below.refl _ _⟩⟩
     go_wp2_with fail
     refine z0e (S:=fun w'=>∃u:Lat u1,w'=u.val) (by kernel_rfl) ?_;refine sgr [(0,8)] 0 (by kernel_rfl) ⟨⟨_,hW⟩,rfl⟩ ?_;simp only[pkE];repeat go_big_quiet_step (fail)
     refine wpQuiet_nil ?_;refine z0i (by kernel_rfl) ?_;replace ho:=z0a ho hW;replace hb:=hb.trans (hW.mono y);have x:=Nat.le_trans y hW.size;replace y:=x;clear hW J x d0 d1;generalize u1.drew=u3 at ho hb y;have d0:=(hb.cell (p:=⟨b,O+k*2,none⟩) U).trans T;have d1:=(hb.cell (p:=⟨b,O+k*2+1,none⟩) U).trans Y;have M:Below (w.heap.size+1) u3 (u3.alloc (.cells #[.int .i64 z0,.int .i64 z1] 119)):=(Below.refl _ _).alloc (by omega) _;have N:=ho.alloc (.cells #[.int .i64 z0,.int .i64 z1] 119)
     go_wp2_with (at_builtin;refine wpList_append_own _ rfl _ _ 26 rfl (w.heap.size+1) 119 i0 (.agg #[.int .i64 0,.int .i64 0]) 2 16 Tryz.underlying26 hi aa ab ad rfl (by decide) _ L.length (z0c L) rfl N ⟨u3.heap.size,0,none⟩ 1 1 [.int .i64 z0,.int .i64 z1] rfl rfl ?c1 ?c2 ?c3 ?c4 ?c5 ?_)
     all_goals try(case c1=>intro j u hj;match j,hj with|0,hj=>simp at hj;subst hj;simp[Addr.add]|1,hj=>simp at hj;subst hj;simp[Addr.add])
     all_goals try(case c2=>first|rfl|(intro u hu;simp at hu;rcases hu with rfl|rfl<;>rfl))
     all_goals try(case c3=>unfold maxLen;omega)
     all_goals try(case c4=>omega)
     all_goals try(case c5=>first|omega|(simp;omega))
     intro v' u4 C A _;obtain⟨a4,c4,rfl⟩:=z0g C;have I:Below (w.heap.size+1) u3 u4:=M.grown A (by simp;omega) (fun j hj=>(ho.lt j hj).1);replace hb:=hb.trans I;have x:=Nat.le_trans y I.size;replace y:=x;replace ho:=C;clear M A N C I x d0 d1;have R:Hid (_∧_∧_):=⟨ho,hb,y⟩
     clear ho hb y
     go_wp2
     go_roundw
     case rel=>
      refine⟨k+1,true,L++[⟨z0,z1⟩],by omega,by go_num,rfl,by first|(simp;omega)|omega,?_,R.out.2.1,R.out.2.2,HS⟩;have:=R.out.1;rw[z0D];simpa using this
     case measure=>simp[intOf];omega
   ·have J:(z0 !=x0)=false:=by simp[bne,hE]
    cases d
    ·have ai:x0≤z0:=by simp at hE;omega
     have hG:decide (x0≤z0)=true:=by simp[ai]
     have HS:Hid ((L++[⟨x0,x1⟩])++setR ⟨x0,x1⟩ true (xs.drop (k+1))=setR ⟨x0,x1⟩ false xs):=by
      show _=_;rw[←W];simp only[Bool.not_true,Bool.not_false,Bool.false_and,Bool.true_and,Bool.true_or,Bool.false_or,hE,hG,if_true,if_false,Bool.false_eq_true,List.nil_append,List.append_assoc,List.cons_append]
     clear W;have d0:=z0f ((hb.cell (p:=⟨b,O+k*2,none⟩) U).trans T);have d1:=z0f ((hb.cell (p:=⟨w.heap.size,0,none⟩) V).trans X);have hW:Below wr.heap.size wr wr.drew:=(Below.refl _ _).drew;have J:Nonempty (Lat wr):=⟨⟨wr,Below.refl _ _⟩⟩
     go_wp2_with fail
     refine z0e (S:=fun w'=>∃u:Lat wr,w'=u.val) (by kernel_rfl) ?_;refine sgr [(0,12)] 0 (by kernel_rfl) ⟨⟨_,hW⟩,rfl⟩ ?_;simp only[pkE];repeat go_big_quiet_step (fail)
     refine wpQuiet_nil ?_;refine z0i (by kernel_rfl) ?_;replace ho:=z0a ho hW;replace hb:=hb.trans (hW.mono y);have x:=Nat.le_trans y hW.size;replace y:=x;clear hW J x d0 d1;generalize wr.drew=u1 at ho hb y;have d0:=(hb.cell (p:=⟨w.heap.size,0,none⟩) V).trans X;have d1:=(hb.cell (p:=⟨w.heap.size,1,none⟩) V).trans aj;have M:Below (w.heap.size+1) u1 (u1.alloc (.cells #[.int .i64 x0,.int .i64 x1] 119)):=(Below.refl _ _).alloc (by omega) _;have N:=ho.alloc (.cells #[.int .i64 x0,.int .i64 x1] 119)
     go_wp2_with (at_builtin;refine wpList_append_own _ rfl _ _ 26 rfl (w.heap.size+1) 119 i0 (.agg #[.int .i64 0,.int .i64 0]) 2 16 Tryz.underlying26 hi aa ab ad rfl (by decide) _ L.length (z0c L) rfl N ⟨u1.heap.size,0,none⟩ 1 1 [.int .i64 x0,.int .i64 x1] rfl rfl ?c1 ?c2 ?c3 ?c4 ?c5 ?_)
     all_goals try(case c1=>intro j u hj;match j,hj with|0,hj=>simp at hj;subst hj;simp[Addr.add]|1,hj=>simp at hj;subst hj;simp[Addr.add])
     all_goals try(case c2=>first|rfl|(intro u hu;simp at hu;rcases hu with rfl|rfl<;>rfl))
     all_goals try(case c3=>unfold maxLen;omega)
     all_goals try(case c4=>omega)
     all_goals try(case c5=>first|omega|(simp;omega))
     intro v' u2 C A _;obtain⟨a2,c2,rfl⟩:=z0g C;have I:Below (w.heap.size+1) u1 u2:=M.grown A (by simp;omega) (fun j hj=>(ho.lt j hj).1);replace hb:=hb.trans I;have x:=Nat.le_trans y I.size;replace y:=x;replace ho:=C;clear M A N C I x d0 d1;replace ho:u2.ownsRow (w.heap.size+1) 119 2 (.slice a2 (L.length+1) c2) (L.length+1) (z0c (L++[⟨x0,x1⟩])):=by rw[z0D];simpa using ho
     generalize af:L++[(⟨x0,x1⟩:ItemD)]=L2 at ho HS;have ae:Hid (L2.length=L.length+1):=by
      show _=_;rw[←af];simp
     clear af;have d0:=z0f ((hb.cell (p:=⟨b,O+k*2,none⟩) U).trans T);have d1:=z0f ((hb.cell (p:=⟨w.heap.size,0,none⟩) V).trans X);have hW:Below u2.heap.size u2 u2.drew:=(Below.refl _ _).drew;have J:Nonempty (Lat u2):=⟨⟨u2,Below.refl _ _⟩⟩
     go_wp2_with fail
     refine z0e (S:=fun w'=>∃u:Lat u2,w'=u.val) (by kernel_rfl) ?_;refine sgr [(0,8)] 0 (by kernel_rfl) ⟨⟨_,hW⟩,rfl⟩ ?_;simp only[pkE];repeat go_big_quiet_step (fail)
     refine wpQuiet_nil ?_;refine z0i (by kernel_rfl) ?_;replace ho:=z0a ho hW;replace hb:=hb.trans (hW.mono y);have x:=Nat.le_trans y hW.size;replace y:=x;clear hW J x d0 d1;generalize u2.drew=u3 at ho hb y;have R:Hid (_∧_∧_):=⟨ho,hb,y⟩
     clear ho hb y
     go_wp2
     go_roundw
     case rel=>
      refine⟨k+1,true,L2,by omega,by go_num,rfl,by have:=ae.out;first|(simp;omega)|omega,?_,R.out.2.1,R.out.2.2,HS⟩;have:=R.out.1;skip;simpa[ae.out]using this
     case measure=>simp[intOf];omega
    ·have HS:Hid ((L)++setR ⟨x0,x1⟩ true (xs.drop (k+1))=setR ⟨x0,x1⟩ false xs):=by
      show _=_;rw[←W];simp only[Bool.not_true,Bool.not_false,Bool.false_and,Bool.true_and,Bool.true_or,Bool.false_or,hE,if_true,if_false,Bool.false_eq_true,List.nil_append,List.append_assoc,List.cons_append]
     clear W;have hW:Below wr.heap.size wr wr.drew:=(Below.refl _ _).drew;have J:Nonempty (Lat wr):=⟨⟨wr,Below.refl _ _⟩⟩
     go_wp2_with fail
     refine z0e (S:=fun w'=>∃u:Lat wr,w'=u.val) (by kernel_rfl) ?_;refine sgr [(0,12)] 0 (by kernel_rfl) ⟨⟨_,hW⟩,rfl⟩ ?_;simp only[pkE];repeat go_big_quiet_step (fail)
     refine wpQuiet_nil ?_;refine z0i (by kernel_rfl) ?_;replace ho:=z0a ho hW;replace hb:=hb.trans (hW.mono y);have x:=Nat.le_trans y hW.size;replace y:=x;clear hW J x;generalize wr.drew=u1 at ho hb y;have d0:=z0f ((hb.cell (p:=⟨b,O+k*2,none⟩) U).trans T);have d1:=z0f ((hb.cell (p:=⟨w.heap.size,0,none⟩) V).trans X);have hW:Below u1.heap.size u1 u1.drew:=(Below.refl _ _).drew;have J:Nonempty (Lat u1):=⟨⟨u1,Below.refl _ _⟩⟩
     go_wp2_with fail
     refine z0e (S:=fun w'=>∃u:Lat u1,w'=u.val) (by kernel_rfl) ?_;refine sgr [(0,8)] 0 (by kernel_rfl) ⟨⟨_,hW⟩,rfl⟩ ?_;simp only[pkE];repeat go_big_quiet_step (fail)
     refine wpQuiet_nil ?_;refine z0i (by kernel_rfl) ?_;replace ho:=z0a ho hW;replace hb:=hb.trans (hW.mono y);have x:=Nat.le_trans y hW.size;replace y:=x;clear hW J x d0 d1;generalize u1.drew=u3 at ho hb y;have R:Hid (_∧_∧_):=⟨ho,hb,y⟩
     clear ho hb y
     go_wp2
     go_roundw
     case rel=>
      refine⟨k+1,true,L,by omega,by go_num,rfl,by first|(simp;omega)|omega,?_,R.out.2.1,R.out.2.2,HS⟩;have:=R.out.1;skip;simpa using this
     case measure=>simp[intOf];omega
  ·have ap:k=xs.length:=by omega
   subst ap;have HT:Hid (L++setR ⟨x0,x1⟩ d []=setR ⟨x0,x1⟩ false xs):=by
    have:=HI.out;rw[List.drop_length]at this;exact this
   clear HI
   cases d
   ·have ak:Hid (setR ⟨x0,x1⟩ false xs=L++[⟨x0,x1⟩]):=HT.out.symm;clear HT;have d0:=(hb.cell (p:=⟨w.heap.size,0,none⟩) V).trans X;have d1:=(hb.cell (p:=⟨w.heap.size,1,none⟩) V).trans aj;have M:Below (w.heap.size+1) wr (wr.alloc (.cells #[.int .i64 x0,.int .i64 x1] 119)):=(Below.refl _ _).alloc (by omega) _;have N:=ho.alloc (.cells #[.int .i64 x0,.int .i64 x1] 119)
    go_wp2_with (at_builtin;refine wpList_append_own _ rfl _ _ 26 rfl (w.heap.size+1) 119 i0 (.agg #[.int .i64 0,.int .i64 0]) 2 16 Tryz.underlying26 hi aa ab ad rfl (by decide) _ L.length (z0c L) rfl N ⟨wr.heap.size,0,none⟩ 1 1 [.int .i64 x0,.int .i64 x1] rfl rfl ?c1 ?c2 ?c3 ?c4 ?c5 ?_)
    all_goals try(case c1=>intro j u hj;match j,hj with|0,hj=>simp at hj;subst hj;simp[Addr.add]|1,hj=>simp at hj;subst hj;simp[Addr.add])
    all_goals try(case c2=>first|rfl|(intro u hu;simp at hu;rcases hu with rfl|rfl<;>rfl))
    all_goals try(case c3=>unfold maxLen;omega)
    all_goals try(case c4=>omega)
    all_goals try(case c5=>first|omega|(simp;omega))
    intro v' u1 C A _;obtain⟨a2,c2,rfl⟩:=z0g C;have I:Below (w.heap.size+1) wr u1:=M.grown A (by simp;omega) (fun j hj=>(ho.lt j hj).1);replace hb:=hb.trans I;have x:=Nat.le_trans y I.size;replace y:=x;replace ho:=C;clear M A N C I x d0 d1
    go_wp2
    go_ret;rw[ak.out];refine⟨a2,c2,by simp,?_,Z.trans (hb.mono (by omega))⟩;rw[z0D];simpa using z0o ho (by omega)
   ·have ak:Hid (setR ⟨x0,x1⟩ false xs=L):=by
     have:=HT.out;simp[setR]at this;exact this.symm
    clear HT
    go_wp2
    go_ret;rw[ak.out];exact⟨_,_,rfl,z0o ho (by omega),Z.trans (hb.mono (by omega))⟩
def exC(xs:List ItemD)(i s q:Int)(zs:List ActD):Int:=if itemsF xs≠0 then itemsF xs else if txnF i s q zs≠0 then txnF i s q zs else(z0t xs zs).1
def exR(xs:List ItemD)(i s q:Int)(zs:List ActD):List ItemD:=if exC xs i s q zs=0 then(z0t xs zs).2 else []
def z5F(zs:List ActD):Int:=(zs.getD (zs.length-1) z0d).key
def exV(xs:List ItemD)(i s q:Int)(zs:List ActD):Int:=if exC xs i s q zs=0 then valI (z0t xs zs).2 (z5F zs)else 0
theorem q5G{xs:List ItemD}{i s q:Int}{zs:List ActD}(h:itemsF xs≠0):exC xs i s q zs=itemsF xs∧exR xs i s q zs=[]∧exV xs i s q zs=0:=by
 have e:exC xs i s q zs=itemsF xs:=if_pos h;exact⟨e,by simp[exR,e,h],by simp[exV,e,h]⟩
theorem q4P{xs:List ItemD}{i s q:Int}{zs:List ActD}(h:itemsF xs=0)(h2:txnF i s q zs≠0):exC xs i s q zs=txnF i s q zs∧exR xs i s q zs=[]∧exV xs i s q zs=0:=by
 have e:exC xs i s q zs=txnF i s q zs:=by simp[exC,h,h2]
 exact⟨e,by simp[exR,e,h2],by simp[exV,e,h2]⟩
theorem q4Q{xs:List ItemD}{i s q:Int}{zs:List ActD}(h:itemsF xs=0)(h2:txnF i s q zs=0)(h3:(z0t xs zs).1≠0):exC xs i s q zs=(z0t xs zs).1∧exR xs i s q zs=[]∧exV xs i s q zs=0:=by
 have e:exC xs i s q zs=(z0t xs zs).1:=by simp[exC,h,h2]
 exact⟨e,by simp[exR,e,h3],by simp[exV,e,h3]⟩
theorem q55{xs:List ItemD}{i s q:Int}{zs:List ActD}(h:itemsF xs=0)(h2:txnF i s q zs=0)(h3:(z0t xs zs).1=0):exC xs i s q zs=0∧exR xs i s q zs=(z0t xs zs).2∧exV xs i s q zs=valI (z0t xs zs).2 (z5F zs):=by
 have e:exC xs i s q zs=0:=by simp[exC,h,h2,h3]
 exact⟨e,by simp[exR,e],by simp[exV,e]⟩
theorem z1I(xs:List ItemD)(a:ActD)(r:List ActD):z0t xs (a::r)=if actC xs a=0 then z0t (actN xs a) r else(actC xs a,[]):=rfl
theorem z3L{zs:List ActD}{k:Nat}(h:k<zs.length):zs.drop k=zs.getD k z0d::zs.drop (k+1):=by
 have e:zs.getD k z0d=zs[k]:=by simp[List.getD,h]
 rw[List.drop_eq_getElem_cons h,e]
theorem z2E(a:Option Addr)(cap:Nat)(xs:List ItemD)(i s q:Int)(ta:Option Addr)(tc:Nat)(zs:List ActD)(w:World)(h:ItemRow w a xs)(ht:ActRow w ta zs)(hl:xs.length≤1048576)(ax:zs.length≤1048576):
  Calls Tryz.prog 183 #[.slice a xs.length cap,.agg #[.int .i64 i,.int .i64 s,.int .i64 q,.slice ta zs.length tc]] w fun e w'=>∃b c,e=.returned (.agg #[.int .i64 (exC xs i s q zs),.int .i64 (exV xs i s q zs),.slice b (exR xs i s q zs).length c])∧
   w'.ownsRow w.heap.size 119 2 (.slice b (exR xs i s q zs).length c) (exR xs i s q zs).length (z0c (exR xs i s q zs))∧Below w.heap.size w w':=by
 have hF:=fun w h=>z1N a cap xs w h hl
 have hT:=fun w h=>z2q i s q ta tc zs w h ax
 have d:Below w.heap.size w ((w.alloc (.cells #[.int .i64 i,.int .i64 s,.int .i64 q,.slice ta zs.length tc] 39)).alloc (.cells #[.int .i64 0,.int .i64 0,.slice none 0 0] 243)):=by go_grown
 have B0:=Blk.new (w.alloc (.cells #[.int .i64 i,.int .i64 s,.int .i64 q,.slice ta zs.length tc] 39)) 243 #[.int .i64 0,.int .i64 0,.slice none 0 0];have Bt:=(Blk.new w 39 #[.int .i64 i,.int .i64 s,.int .i64 q,.slice ta zs.length tc]).below (w':=(w.alloc (.cells #[.int .i64 i,.int .i64 s,.int .i64 q,.slice ta zs.length tc] 39)).alloc (.cells #[.int .i64 0,.int .i64 0,.slice none 0 0] 243)) (by go_grown);rw[World.size_alloc]at B0;by_cases h0:itemsF xs=0
 case neg=>
  obtain⟨e1,e2,e3⟩:=q5G (i:=i) (s:=s) (q:=q) (zs:=zs) h0;rw[e1,e2,e3];have N:(itemsF xs !=0)=true:=by simpa using h0
  clear h0 e1 e2 e3;generalize itemsF xs=r at hF N;go_enter Tryz.func183,Tryz.ntmps183
  go_wp2_with fail
  generalize (w.alloc (.cells #[.int .i64 i,.int .i64 s,.int .i64 q,.slice ta zs.length tc] 39)).alloc (.cells #[.int .i64 0,.int .i64 0,.slice none 0 0] 243)=W0 at d B0 Bt;refine(hF _ (h.below d)).mono ?_;rintro e w1 ⟨rfl,hb⟩;replace B0:=B0.below hb;replace d:=d.trans (hb.mono d.size);obtain⟨p0,p1,p2⟩:=B0.cel3;obtain⟨f0,f1,f2⟩:=B0.frz3;have O:=B0.lt;clear hb B0 Bt
  go_wp2
  refine bodyPost_ret (v:=.agg #[.int .i64 r,.int .i64 0,.slice none 0 0]) (by simp[results,Tryz.results183,go_sem,p0,p1,p2]) rfl ⟨_,_,rfl,World.ownsRow_nil _ _ _ _,?_⟩;repeat' (refine Below.setCell ?_ (by dsimp only;omega) _)
  exact d
 by_cases h2:txnF i s q zs=0
 case neg=>
  obtain⟨e1,e2,e3⟩:=q4P h0 h2;rw[e1,e2,e3];have N:(txnF i s q zs !=0)=true:=by simpa using h2
  rw[h0]at hF;clear h0 h2 e1 e2 e3;generalize txnF i s q zs=r at hT N;go_enter Tryz.func183,Tryz.ntmps183
  go_wp2_with fail
  generalize (w.alloc (.cells #[.int .i64 i,.int .i64 s,.int .i64 q,.slice ta zs.length tc] 39)).alloc (.cells #[.int .i64 0,.int .i64 0,.slice none 0 0] 243)=W0 at d B0 Bt;refine(hF _ (h.below d)).mono ?_;rintro e w1 ⟨rfl,hb⟩;replace B0:=B0.below hb;replace Bt:=Bt.below hb;replace d:=d.trans (hb.mono d.size);obtain⟨q0,q1,q2,q3⟩:=Bt.cel4;clear hb
  go_wp2_with fail
  clear q0 q1 q2 q3 Bt;refine(hT _ (ht.below d)).mono ?_;rintro e w2 ⟨rfl,hb⟩;replace B0:=B0.below hb;replace d:=d.trans (hb.mono d.size);obtain⟨p0,p1,p2⟩:=B0.cel3;obtain⟨f0,f1,f2⟩:=B0.frz3;have O:=B0.lt;clear hb B0
  go_wp2
  refine bodyPost_ret (v:=.agg #[.int .i64 r,.int .i64 0,.slice none 0 0]) (by simp[results,Tryz.results183,go_sem,p0,p1,p2]) rfl ⟨_,_,rfl,World.ownsRow_nil _ _ _ _,?_⟩;repeat' (refine Below.setCell ?_ (by dsimp only;omega) _)
  exact d
 obtain⟨h8,g⟩:=z1Z h0;obtain⟨⟨aF,aG⟩,Z⟩:=z0W h2;have HB:Hid ((z0t xs zs).1≠0→exC xs i s q zs=(z0t xs zs).1∧exR xs i s q zs=[]∧exV xs i s q zs=0):=fun h3=>q4Q h0 h2 h3
 have HK:Hid ((z0t xs zs).1=0→exC xs i s q zs=0∧exR xs i s q zs=(z0t xs zs).2∧exV xs i s q zs=valI (z0t xs zs).2 (z5F zs)):=fun h3=>q55 h0 h2 h3
 have HA:Hid (∀a∈zs,actF a=0):=Z;have ap:=fun w h=>z5D a cap xs w h h8 g
 rw[h0]at hF;rw[h2]at hT;clear h0 h2 Z;go_enter Tryz.func183,Tryz.ntmps183
 go_wp2_with fail
 generalize (w.alloc (.cells #[.int .i64 i,.int .i64 s,.int .i64 q,.slice ta zs.length tc] 39)).alloc (.cells #[.int .i64 0,.int .i64 0,.slice none 0 0] 243)=W0 at d B0 Bt;refine(hF _ (h.below d)).mono ?_;rintro e w1 ⟨rfl,hb⟩;replace B0:=B0.below hb;replace Bt:=Bt.below hb;replace d:=d.trans (hb.mono d.size);obtain⟨q0,q1,q2,q3⟩:=Bt.cel4;clear hb
 go_wp2_with fail
 clear q0 q1 q2 q3;refine(hT _ (ht.below d)).mono ?_;rintro e w2 ⟨rfl,hb⟩;replace B0:=B0.below hb;replace Bt:=Bt.below hb;replace d:=d.trans (hb.mono d.size);clear hb
 go_wp2_with fail
 refine(ap _ (h.below d)).mono ?_;rintro e w3 ⟨rfl,hS,hb⟩;have ao:=B0.lt;have az:=Bt.lt;replace B0:=B0.below hb;replace Bt:=Bt.below hb;have aA:=ht.below d;replace ht:=ht.below (d.trans (hb.mono d.size));have aD:=hS.lt;have aj:Below w.heap.size w w3:=d.trans (hb.mono d.size);have ab:=d.size;have aa:∀k,k<zs.length→∃b A,ta=some ⟨b,A,none⟩∧b<w2.heap.size:=fun k hk=>by
  obtain⟨b,A,e,M,_⟩:=(aA:ActRow w2 ta zs).at k hk;exact⟨b,A,e,M⟩
 clear hb ap hT hF h;generalize w2.heap.size=sb at*;have q3:=Bt.cell 3 _ rfl
 go_wp2
 clear q3;have ai:=hS;clear hS;go_loopw[29] (fun j wr=>∃ (k:Nat) (y:List ItemD),k≤zs.length∧j=.int .i64 k∧ShelfAt wr sb y∧y.length≤8∧Hid (Good y∧z0t y (zs.drop k)=z0t xs zs)∧Below sb w3 wr) (fun j _=>zs.length-(intOf j).toNat)
 case atStart=>exact⟨0,xs,Nat.zero_le _,rfl,ai,h8,⟨g,by simp⟩,Below.refl _ _⟩
 case round=>
  clear ai;obtain⟨k,y,hk,rfl,hS,ag,HG,hb⟩:=hrel;have aE:=hS.lt;by_cases O:k<zs.length
  ·obtain⟨b,A,rfl,M⟩:=aa k O;obtain⟨b',ar,e,_,J,I,L⟩:=ht.at k O;simp only[Option.some.injEq,Addr.mk.injEq,and_true]at e;obtain⟨rfl,rfl⟩:=e;replace J:wr.cell? ⟨b,A+k*3,none⟩=_:=(hb.cell (p:=⟨b,A+k*3,none⟩) M).trans J;replace I:wr.cell? ⟨b,A+k*3+1,none⟩=_:=(hb.cell (p:=⟨b,A+k*3+1,none⟩) M).trans I;replace L:wr.cell? ⟨b,A+k*3+2,none⟩=_:=(hb.cell (p:=⟨b,A+k*3+2,none⟩) M).trans L;have X:=HA.out (zs.getD k z0d) (by simp[List.getD,O]);have C:=fun w h=>q3S sb y (zs.getD k z0d).kind (zs.getD k z0d).key (zs.getD k z0d).val w h ag HG.out.1 X
   change∀w h,Calls _ _ _ _ fun e w'=>e=.returned (.int .i64 (actC y (zs.getD k z0d)))∧(actC y (zs.getD k z0d)=0→ShelfAt w' sb (actN y (zs.getD k z0d)))∧_ at C
   have HD:Hid (z0t y (zs.getD k z0d::zs.drop (k+1))=z0t xs zs):=by
    have:=HG.out.2;rw[z3L O]at this;exact this
   by_cases hF:actC y (zs.getD k z0d)=0
   ·obtain⟨am,an⟩:=z2S ag HG.out.1 X hF;have ah:Hid (Good (actN y (zs.getD k z0d))∧z0t (actN y (zs.getD k z0d)) (zs.drop (k + 1))=z0t xs zs):=⟨an,by
     have:=HD.out;rw[z1I,if_pos hF]at this;exact this⟩
    rw[hF]at C;clear HD an HG X hF;generalize actN y (zs.getD k z0d)=nx at C ah am;generalize zs.getD k z0d=z at J I L C;obtain⟨z0,z1,z2⟩:=z;dsimp only at J I L C;have T:ShelfAt (wr.alloc (.cells #[.int .i64 z0,.int .i64 z1,.int .i64 z2] 144)) sb y:=hS.below (by go_grown);have V:Below sb w3 (wr.alloc (.cells #[.int .i64 z0,.int .i64 z1,.int .i64 z2] 144)):=hb.alloc (by omega) _
    go_wp2_with fail
    refine(C _ T).mono ?_;rintro e w5 ⟨rfl,hN,hO⟩;have Y:=z3S V hO (Nat.le_refl _) (by simp;omega);have av:=hN (by first|trivial|rfl);clear C hN hO V T hS hb
    go_wp2
    go_roundw
    case rel=>exact⟨k+1,nx,by omega,by go_num,av,am,ah,Y⟩
    case measure=>simp[intOf];omega
   ·have HC:Hid (z0t xs zs=(actC y (zs.getD k z0d),[])):=by
     have:=HD.out;rw[z1I,if_neg hF]at this;exact this.symm
    have HE:Hid (exC xs i s q zs=actC y (zs.getD k z0d)∧exR xs i s q zs=[]∧exV xs i s q zs=0):=by
     have:=HB.out (by rw[HC.out];exact hF);rw[HC.out]at this;exact this
    have N:(actC y (zs.getD k z0d) !=0)=true:=by simpa using hF
    clear HD HG X hF HC;generalize actC y (zs.getD k z0d)=r at C HE N;generalize zs.getD k z0d=z at J I L C;obtain⟨z0,z1,z2⟩:=z;dsimp only at J I L C;have T:ShelfAt (wr.alloc (.cells #[.int .i64 z0,.int .i64 z1,.int .i64 z2] 144)) sb y:=hS.below (by go_grown);have V:Below sb w3 (wr.alloc (.cells #[.int .i64 z0,.int .i64 z1,.int .i64 z2] 144)):=hb.alloc (by omega) _
    go_wp2_with fail
    refine(C _ T).mono ?_;rintro e w5 ⟨rfl,_,hO⟩;have Y:=z3S V hO (Nat.le_refl _) (by simp;omega);replace B0:Blk w5 _ _ _:=(Y.block _ ao).trans B0;obtain⟨p0,p1,p2⟩:=B0.cel3;obtain⟨f0,f1,f2⟩:=B0.frz3;have aB:=B0.lt;clear C hO V T hS hb B0
    go_wp2
    refine bodyPost_ret (v:=.agg #[.int .i64 r,.int .i64 0,.slice none 0 0]) (by simp[results,Tryz.results183,go_sem,p0,p1,p2]) rfl ?_;rw[HE.out.1,HE.out.2.1,HE.out.2.2];refine⟨_,_,rfl,World.ownsRow_nil _ _ _ _,?_⟩;repeat' (refine Below.setCell ?_ (by dsimp only;omega) _)
    exact aj.trans (Y.mono ab)
  ·have al:k=zs.length:=by omega
   have HC:Hid (z0t xs zs=(0,y)):=by
    have:=HG.out.2;rw[al,List.drop_length]at this;exact this.symm
   have HE:Hid (exC xs i s q zs=0∧exR xs i s q zs=y∧exV xs i s q zs=valI y (z5F zs)):=by
    have:=HK.out (by rw[HC.out]);rw[HC.out]at this;exact this
   have hg:=HG.out.1;subst al;obtain⟨n,hn⟩:∃n,zs.length=n+1:=⟨zs.length-1,by omega⟩
   obtain⟨b,A,rfl,M⟩:=aa n (by omega);obtain⟨b',ar,e,_,J,I,L⟩:=ht.at n (by omega);simp only[Option.some.injEq,Addr.mk.injEq,and_true]at e;obtain⟨rfl,rfl⟩:=e;replace I:wr.cell? ⟨b,A+n*3+1,none⟩=_:=(hb.cell (p:=⟨b,A+n*3+1,none⟩) M).trans I;have ak:=(z11 (HA.out (zs.getD n z0d) (by simp[List.getD,show n<zs.length by omega]))).2.1;have HL:Hid (z5F zs=(zs.getD n z0d).key):=by
    show _=_;unfold z5F;rw[hn,Nat.add_sub_cancel]
   generalize (zs.getD n z0d).key=kk at I ak HL;have HV:Hid (exV xs i s q zs=valI y kk):=by
    have:=HE.out.2.2;rw[HL.out]at this;exact this
   generalize aq:valI y kk=vv at HV;have au:Hid (valI y kk=vv):=aq;replace B0:Blk wr _ _ _:=(hb.block _ ao).trans B0;replace Bt:Blk wr _ _ _:=(hb.block _ az).trans Bt;have q3:=Bt.cell 3 _ rfl;clear J L HC HG HL aq
   go_wp2_with fail
   clear q3 I Bt;refine z0e (S:=fun w'=>∃u:KeepP (fun u=>ShelfAt u sb y),w'=u.val) (by kernel_rfl) ?_;have N:Nonempty (KeepP (fun u=>ShelfAt u sb y)):=⟨⟨wr,hS⟩⟩
   have W:ShelfAt wr.drew sb y:=hS;refine sgr [(0,2),(3,1)] 4 (by kernel_rfl) ⟨⟨wr.drew,W⟩,rfl⟩ ?_;simp only[pkE];repeat go_big_quiet_step (fail)
   refine wpQuiet_nil ?_;refine qta 2 (some 52) (.int .i64 vv) 3 (by kernel_rfl) ?hrun ⟨⟨wr.drew,W⟩,rfl⟩ ?_
   case hrun=>
    intro u hu;obtain⟨x,rfl⟩:=hu;obtain⟨c,hr,ae,_⟩:=World.ownsMap.lookup_int x.isP z3c Tryz.underlying309 Tryz.underlying2 (z4b _) (z6x (k:=kk) (by omega));rw[z7n,au.out]at ae;simp only[DataW.lit.injEq,Lit.int.injEq,true_and]at ae;subst ae;show some (Sem.run Tryz.prog (do let v←Instr.lookup 309 (.map (some sb)) (.int .i64 kk) false;pure (Next.value v)) x.val)=_;rw[Sem.run_bind,hr];rfl
   simp only[Act.put,pgE,pjE];refine cla 4 (some 54) 236 #[.map (some sb)] 2 (by kernel_rfl) ?_;refine(q2g sb y _ W ag hg).mono ?_;rintro e w6 ⟨ra,rc,rfl,ro,U⟩;have ad:=W.below U;refine⟨_,rfl,⟨⟨w6,ad⟩,rfl⟩,?_⟩;simp only[Act.put,pgE,pjE];refine sgr [(5,1)] 1 (by kernel_rfl) ⟨⟨w6,ad⟩,rfl⟩ ?_;simp only[pkE];repeat go_big_quiet_step (fail)
   refine wpQuiet_nil ?_;refine ona 6 0 rfl (by kernel_rfl) ?_;have ay:wr.drew.heap.size=wr.heap.size:=rfl;rw[ay]at ro U;have af:Below wr.heap.size wr wr.drew:=(Below.refl _ _).drew;replace B0:=B0.below (af.trans U);have aw:Below w.heap.size w w6:=(aj.trans (hb.mono ab)).trans ((af.trans U).mono (by omega));obtain⟨p0,p1,p2⟩:=B0.cel3;obtain⟨f0,f1,f2⟩:=B0.frz3;have aC:=B0.lt;clear B0 U af N
   go_wp2
   refine ThenGo.to ⟨⟨⟨_,World.ownsMap.setCell (World.ownsMap.setCell (World.ownsMap.setCell ad (by dsimp only;omega) _) (by dsimp only;omega) _) (by dsimp only;omega) _⟩,rfl⟩,?_⟩;refine z0i (by kernel_rfl) ?_
   go_wp2
   refine bodyPost_ret (v:=.agg #[.int .i64 0,.int .i64 vv,.slice ra y.length rc]) (by simp[results,Tryz.results183,go_sem,p0,p1,p2]) rfl ?_;rw[HE.out.1,HE.out.2.1,HV.out];refine⟨_,_,rfl,?_,?_⟩
   ·refine z0o (base:=wr.heap.size) ?_ (by omega);repeat' (refine ownsRow_setCell_below ?_ (by dsimp only;omega) _)
    exact ro
   ·repeat' (refine Below.setCell ?_ (by dsimp only;omega) _)
    exact aw
end
end Go.Proofs.YtlkpdgjnhkjpjaaGreatDoor
