/- Texts joined,with what the laws reach alone. -/
import Derived.Test.YtljbililjlafcaaGreatDoorILAL
import Derived.Laws.AppendOwnNone
import Derived.Lib.AppendZeros
import Derived.Defers
set_option linter.unusedVariables false
set_option linter.unusedSimpArgs false
set_option maxRecDepth 100000
set_option maxHeartbeats 8000000
namespace Go.Proofs.YtljbililjlafcaaGreatDoor
open Go.RowKit Go.BigFrame
section
open Go.Maps
theorem z1R(zs:List ItemD):∀u∈z0h zs,u.oneCell'=true:=by
 intro u hu;simp only[z0h,List.mem_flatMap,ItemD.cells,List.mem_cons,List.not_mem_nil,or_false]at hu;obtain⟨z,_,rfl|rfl⟩:=hu<;>rfl
theorem z7n{w:World}{ad:Addr}{xs:List Value}(h:Lies w (some ad) xs):∀j u,xs[j]?=some u→w.cell? (ad.add j)=some u:=by
 intro j u hj;rcases h with rfl|⟨b',off',e,_,hc⟩
 ·simp at hj
 ·simp only[Option.some.injEq]at e;subst e;rw[Addr.add_lit];exact hc j u hj
section
variable {ops:Array Oper} {rest:List Oper} {o:Oper} {a:Act} {Q:Exit→Act→World→Prop}
theorem z0A(w:World)(A:o.guard=none)(s x:Operand)(ho:o.op=.call {callee:=.builtin .append,args:=#[s,x],argTypes:=#[70,70]})(base g:Nat)
  (hs:a.eval s=.slice (some ⟨g,0,none⟩) 0 0) (d:w.ownsRow base 187 2 (.slice (some ⟨g,0,none⟩) 0 0) 0 []) (sa:Option Addr) (zs:List ItemD) (sc:Nat) (hx:a.eval x=.slice sa zs.length sc) (hr:ItemRow w sa zs) (hN:z7l sa zs.length sc) (hl:zs.length≤1048576) (y:base≤w.heap.size)
  (h:∀a' c' w',w'.ownsRow base 187 2 (.slice a' zs.length c') zs.length (z0h zs)→Below base w w'→wpList Tryz.prog ops Q rest (a.put o.dst (.slice a' zs.length c')) w'):wpList Tryz.prog ops Q (o::rest) a w:=by
 obtain⟨i0,hi,C,D,E⟩:=info_parts z1H;rcases hN with⟨ad,rfl⟩|⟨rfl,hn,rfl⟩
 ·refine wpList_append_own w A s x 70 ho base 187 i0 (.agg #[.int .i64 0,.int .i64 0]) 2 16 Tryz.underlying70 hi C D E rfl (by decide) _ 0 [] hs d ad zs.length sc (z0h zs) hx (z1h zs) (z7n hr) (z1R zs) (by unfold maxLen;omega) (by omega) y ?_;intro v' w' c z _;simp only[Nat.zero_add,List.nil_append]at c;obtain⟨a',c',rfl⟩:=z0g c;exact h a' c' w' c ((Below.refl _ _).grown z y (fun k hk=>(d.lt k hk).1))
 ·have hz:zs=[]:=List.eq_nil_of_length_eq_zero hn;subst hz;refine wpList_append_own_none A s x 70 ho base 187 i0 2 Tryz.underlying70 hi _ 0 [] hs d hx ?_;exact h _ _ w d (Below.refl _ _)
end
theorem z5F{B:Nat}{w:World}{a:Addr}{v:Value}(h:w.cell? a=some v)(hlt:a.block<B):∀u:LatB B w,u.val.cell? a=some v:=fun u=>by
 rw[u.isBelow.cell hlt];exact h
def runR(xs:List ItemD)(zs:List ActD):List ItemD:=if(z0t xs zs).1=0 then(z0t xs zs).2 else []
def runV(xs:List ItemD)(zs:List ActD):Int:=if(z0t xs zs).1=0 then valI (z0t xs zs).2 (z4R zs)else 0
theorem z9F(a:Option Addr)(cap:Nat)(xs:List ItemD)(tb E:Nat)(i s q:Int)(ta:Option Addr)(tc:Nat)(zs:List ActD)(w:World)(h:ItemRow w a xs)(hN:z7l a xs.length cap)(hB:Box4 w tb E (.int .i64 i) (.int .i64 s) (.int .i64 q) (.slice ta zs.length tc))(ht:ActRow w ta zs)(h8:xs.length≤8)(g:Good xs)(h2:txnF i s q zs=0):
  Calls Tryz.prog 134 #[.slice a xs.length cap,.pointer (some ⟨tb,E,none⟩)] w fun e w'=>∃b c,e=.returned (.agg #[.int .i64 (z0t xs zs).1,.int .i64 (runV xs zs),.slice b (runR xs zs).length c])∧
   w'.ownsRow w.heap.size 187 2 (.slice b (runR xs zs).length c) (runR xs zs).length (z0h (runR xs zs))∧Below w.heap.size w w':=by
 obtain⟨⟨aP,aQ⟩,Z⟩:=z0S h2;have HA:Hid (∀a∈zs,actF a=0):=Z;clear h2 Z;have aH:Below w.heap.size w (w.alloc (.cells #[.int .i64 0,.int .i64 0,.slice none 0 0] 215)):=by go_grown
 have B0:=Blk.new w 215 #[.int .i64 0,.int .i64 0,.slice none 0 0];have ah:Below w.heap.size w ((w.alloc (.cells #[.int .i64 0,.int .i64 0,.slice none 0 0] 215)).alloc (.cells #[] 187)):=by go_grown
 have an:=B0.below (w':=(w.alloc (.cells #[.int .i64 0,.int .i64 0,.slice none 0 0] 215)).alloc (.cells #[] 187)) (by go_grown);have al:=World.ownsRow_lit (size:=2) (e:=187) (w.alloc (.cells #[.int .i64 0,.int .i64 0,.slice none 0 0] 215)) #[] 0 (Nat.le_refl _) (by decide) rfl;rw[World.size_alloc]at al;have aJ:w.heap.size+1≤((w.alloc (.cells #[.int .i64 0,.int .i64 0,.slice none 0 0] 215)).alloc (.cells #[] 187)).heap.size:=by simp
 have ax:∀ (ops:Array Oper) (rest:List Oper) (o:Oper) (J:Act) (Q:Exit→Act→World→Prop) (ay:o.guard=none) (sx x:Operand) (ho:o.op=.call {callee:=.builtin .append,args:=#[sx,x],argTypes:=#[70,70]}) (hs:J.eval sx=.slice (some ⟨w.heap.size+1,0,none⟩) 0 0) (hx:J.eval x=.slice a xs.length cap)
   (hh:∀a' c' w',w'.ownsRow (w.heap.size+1) 187 2 (.slice a' xs.length c') xs.length (z0h xs)→Below (w.heap.size+1) ((w.alloc (.cells #[.int .i64 0,.int .i64 0,.slice none 0 0] 215)).alloc (.cells #[] 187)) w'→wpList Tryz.prog ops Q rest (J.put o.dst (.slice a' xs.length c')) w'),wpList Tryz.prog ops Q (o::rest) J ((w.alloc (.cells #[.int .i64 0,.int .i64 0,.slice none 0 0] 215)).alloc (.cells #[] 187)):=
  fun ops rest o J Q ay sx x ho hs hx hh=>z0A _ ay sx x ho (w.heap.size+1) (w.heap.size+1) hs al a xs cap hx (h.below ah) hN (by omega) (by simp) hh
 go_enter Tryz.func134,Tryz.ntmps134
 go_wp2_with (at_builtin;refine ax _ _ _ _ _ rfl _ _ rfl rfl rfl ?_)
 intro a1 c1 w2 y ai;have M:Below w.heap.size w w2:=ah.trans (ai.mono (by omega));replace B0:Blk w2 _ _ _:=(ai.block _ (by omega)).trans an;have aO:w.heap.size<w2.heap.size:=B0.lt;have ap:=z2o y;have au:ItemRow w2 a1 xs:=Lies.own y;obtain⟨b0,b1,b2,b3⟩:=hB;have aF:tb<w.heap.size:=World.block_lt_of_cell? w ⟨tb,E,none⟩ b0;have c3:w2.cell? ⟨tb,E+3,none⟩=_:=(M.cell (p:=⟨tb,E+3,none⟩) aF).trans b3;have aE:=ht.below M;have aC:∀k,k<zs.length→∃b I,ta=some ⟨b,I,none⟩∧b<w.heap.size:=fun k hk=>by
  obtain⟨b,I,e,X,_⟩:=ht.at k hk;exact⟨b,I,e,X⟩
 have aa:=M.size;clear ax al an ah aJ aH h hN y ai b0 b1 b2 b3 ht
 go_wp2
 go_loopw[5,6] (fun v j wr=>∃ (k:Nat) (d:List ItemD) (b:Option Addr) (c:Nat),k≤zs.length∧j=.int .i64 k∧v=.slice b d.length c∧ItemRow wr b d∧z7l b d.length c∧d.length≤8∧Hid (Good d∧z0t d (zs.drop k)=z0t xs zs)∧Below w2.heap.size w2 wr) (fun _ j _=>zs.length-(intOf j).toNat)
 case atStart=>exact⟨0,xs,a1,c1,Nat.zero_le _,rfl,rfl,au,ap,h8,⟨g,by simp⟩,Below.refl _ _⟩
 case round=>
  clear au ap;obtain⟨k,d,nb,nc,hk,rfl,rfl,hR,ad,aw,HG,hb⟩:=hrel;have ab:=hb.size;have d3:wr.cell? ⟨tb,E+3,none⟩=_:=(hb.cell (p:=⟨tb,E+3,none⟩) (by dsimp only;omega)).trans c3;by_cases ak:k<zs.length
  ·obtain⟨b,I,rfl,X,T,C,U⟩:=(aE.below hb).at k ak;have V:=HA.out (zs.getD k z0e) (by simp[List.getD,ak]);have A:=z7m nb nc d b (I+k*3) (zs.getD k z0e).kind (zs.getD k z0e).key (zs.getD k z0e).val wr hR ad aw HG.out.1 V T C U;change Calls _ _ _ _ (z1k wr nb d (zs.getD k z0e))at A;unfold z1k at A;have HD:Hid (z0t d (zs.getD k z0e::zs.drop (k+1))=z0t xs zs):=by
    have:=HG.out.2;rw[z3b ak]at this;exact this
   by_cases hF:actC d (zs.getD k z0e)=0
   ·obtain⟨aA,aB⟩:=z2n aw HG.out.1 V hF;have ao:Hid (Good (actN d (zs.getD k z0e))∧z0t (actN d (zs.getD k z0e)) (zs.drop (k + 1))=z0t xs zs):=⟨aB,by
     have:=HD.out;rw[z1r,if_pos hF]at this;exact this⟩
    rw[hF]at A;clear HD aB HG V hF T C U hR;generalize actN d (zs.getD k z0e)=nx at A ao aA
    go_wp2_with fail
    refine A.mono ?_;rintro e w5 ⟨b5,n5,c5,rfl,aq,N⟩;obtain⟨rfl,aG,ar,_⟩:=aq (by first|trivial|rfl);have W:=hb.trans (N.mono ab);clear A hb N d3 aq
    go_wp2
    go_roundw
    case rel=>exact⟨k+1,nx,b5,c5,by omega,by go_num,rfl,aG,ar,aA,ao,W⟩
    case measure=>simp[intOf];omega
   ·have HC:Hid (z0t xs zs=(actC d (zs.getD k z0e),[])):=by
     have:=HD.out;rw[z1r,if_neg hF]at this;exact this.symm
    have HE:Hid ((z0t xs zs).1=actC d (zs.getD k z0e)∧runR xs zs=[]∧runV xs zs=0):=by
     have hh:=HC.out;refine⟨by rw[hh],?_,?_⟩
     ·unfold runR;rw[hh];exact if_neg hF
     ·unfold runV;rw[hh];exact if_neg hF
    have Y:(actC d (zs.getD k z0e) !=0)=true:=by simpa using hF
    clear HD HG V hF HC T C U hR;generalize actC d (zs.getD k z0e)=r at A HE Y
    go_wp2_with fail
    refine A.mono ?_;rintro e w5 ⟨b5,n5,c5,rfl,_,N⟩;have W:=hb.trans (N.mono ab);replace B0:=B0.below W;obtain⟨p0,p1,p2⟩:=B0.cel3;obtain⟨f0,f1,f2⟩:=B0.frz3;have aK:=B0.lt;clear A hb N d3 B0
    go_wp2
    refine bodyPost_ret (v:=.agg #[.int .i64 r,.int .i64 0,.slice none 0 0]) (by simp[results,Tryz.results134,go_sem,p0,p1,p2]) rfl ?_;rw[HE.out.1,HE.out.2.1,HE.out.2.2];refine⟨_,_,rfl,World.ownsRow_nil _ _ _ _,?_⟩;repeat' (refine Below.setCell ?_ (by dsimp only;omega) _)
    exact M.trans (W.mono aa)
  ·have az:k=zs.length:=by omega
   have HC:Hid (z0t xs zs=(0,d)):=by
    have:=HG.out.2;rw[az,List.drop_length]at this;exact this.symm
   subst az;obtain⟨n,hn⟩:∃n,zs.length=n+1:=⟨zs.length-1,by omega⟩
   obtain⟨b,I,rfl,X⟩:=aC n (by omega);obtain⟨b',aM,e,_,T,C,U⟩:=(aE.below hb).at n (by omega);simp only[Option.some.injEq,Addr.mk.injEq,and_true]at e;obtain⟨rfl,rfl⟩:=e;have HL:Hid (z4R zs=(zs.getD n z0e).key):=by
    show _=_;unfold z4R;rw[hn,Nat.add_sub_cancel]
   generalize (zs.getD n z0e).key=kk at C HL;have am:=fun w h=>z1Q nb nc d kk w h (by omega)
   have HE:Hid ((z0t xs zs).1=0∧runR xs zs=d∧runV xs zs=valI d kk):=by
    have hh:=HC.out;refine⟨by rw[hh],?_,?_⟩
    ·unfold runR;rw[hh];exact if_pos rfl
    ·unfold runV;rw[hh,HL.out];exact if_pos rfl
   generalize valI d kk=vv at am HE;replace B0:=B0.below hb;have av:Below w.heap.size w wr:=M.trans (hb.mono aa);have aL:=B0.lt;have Y:Nonempty (LatB w.heap.size wr):=⟨⟨wr,Below.refl _ _⟩⟩
   have aD:(zs.length:Int)-1=(n:Int):=by omega
   have aN:n<zs.length:=by omega
   clear hn;have k0:=z5F C X;have k1:=z5F d3 aF;have hW:Below w.heap.size wr wr.drew:=(Below.refl _ _).drew;have af:Below w.heap.size wr (wr.drew.alloc (.cells #[] 187)):=hW.alloc (by show w.heap.size≤wr.heap.size;omega) _;have O:Below wr.heap.size wr (wr.drew.alloc (.cells #[] 187)):=((Below.refl _ _).drew).alloc (Nat.le_refl _) _;clear T U C HC HG HL c3
   go_wp2_with fail
   clear d3;refine z0b (S:=fun w'=>∃u:LatB w.heap.size wr,w'=u.val) (by kernel_rfl) ?_;refine sgr [(0,9)] 11 (by kernel_rfl) ⟨⟨_,hW⟩,rfl⟩ ?_;simp only[pkE];repeat go_big_quiet_step (fail)
   refine wpQuiet_nil ?_;refine qta 9 (some 46) (.int .i64 zs.length) 10 (by kernel_rfl) (fun u _=>by kernel_rfl) ⟨⟨_,hW⟩,rfl⟩ ?_;simp only[Act.put,pgE,pjE];refine sgr [(10,4),(16,1)] 5 (by kernel_rfl) ⟨⟨_,hW⟩,rfl⟩ ?_;simp only[pkE];repeat go_big_quiet_step (fail)
   refine wpQuiet_nil ?_;clear k0 k1 aD;refine twa 14 15 4 (by kernel_rfl) ?_ ?_
   ·refine opc 14 (some 51) 167 #[.slice nb d.length nc,.int .i64 kk] (by kernel_rfl) ?_;refine(am _ (hR.below ((Below.refl _ _).drew))).mono ?_;rintro e w' ⟨rfl,hw⟩;subst hw;refine⟨_,rfl,⟨⟨_,hW⟩,rfl⟩,?_⟩;simp only[Act.put,pgE,pjE];refine ona 15 3 rfl (by kernel_rfl) ?_
    go_wp2
    refine ThenGo.to ⟨⟨⟨_,af⟩,rfl⟩,?_⟩;have D:=World.ownsRow_lit (size:=2) (e:=187) wr.drew #[] 0 (Nat.le_refl _) (by decide) rfl;change(wr.drew.alloc (.cells #[] 187)).ownsRow wr.heap.size _ _ (.slice (some ⟨wr.heap.size,0,none⟩) 0 0) 0 []at D;refine ona 17 2 rfl (by kernel_rfl) ?_;refine z0A _ rfl _ _ rfl wr.heap.size wr.heap.size rfl D nb d nc rfl (hR.below O) ad (by omega) (by simp) ?_;intro a7 c7 w7 y ag;have L:Below wr.heap.size wr w7:=O.trans ag;have z:Below w.heap.size wr w7:=L.mono (by omega);clear D
    go_wp2
    refine ThenGo.to ⟨⟨⟨_,z⟩,rfl⟩,?_⟩;simp only[Act.put,pgE,pjE];refine sgr [(18,1)] 1 (by kernel_rfl) ⟨⟨_,z⟩,rfl⟩ ?_;simp only[pkE];repeat go_big_quiet_step (fail)
    refine wpQuiet_nil ?_;refine ona 19 0 rfl (by kernel_rfl) ?_;replace B0:=B0.below L;obtain⟨p0,p1,p2⟩:=B0.cel3;obtain⟨f0,f1,f2⟩:=B0.frz3;have aI:=B0.lt;have aj:Below w.heap.size w w7:=av.trans z;have ae:=((z.setCell (p:=⟨w.heap.size,0,none⟩) (Nat.le_refl _) (.int .i64 0)).setCell (p:=⟨w.heap.size,1,none⟩) (Nat.le_refl _) (.int .i64 vv)).setCell (p:=⟨w.heap.size,2,none⟩) (Nat.le_refl _) (.slice a7 d.length c7);clear B0 Y
    go_wp2
    refine ThenGo.to ⟨⟨⟨_,ae⟩,rfl⟩,?_⟩;refine z0f (by kernel_rfl) ?_
    go_wp2
    refine bodyPost_ret (v:=.agg #[.int .i64 0,.int .i64 vv,.slice a7 d.length c7]) (by simp[results,Tryz.results134,go_sem,p0,p1,p2]) rfl ?_;rw[HE.out.1,HE.out.2.1,HE.out.2.2];refine⟨_,_,rfl,?_,?_⟩
    ·refine z0p (base:=wr.heap.size) ?_ (by omega);repeat' (refine ownsRow_setCell_below ?_ (by dsimp only;omega) _)
     exact y
    ·repeat' (refine Below.setCell ?_ (by dsimp only;omega) _)
     exact aj
   ·refine z2u 15 _ rfl ?_
    go_wp2
    refine ThenGo.to ⟨⟨⟨_,af⟩,rfl⟩,?_⟩;refine cla 14 (some 51) 167 #[.slice nb d.length nc,.int .i64 kk] 3 (by kernel_rfl) ?_;refine(am _ (hR.below O)).mono ?_;rintro e w' ⟨rfl,hw⟩;subst hw;refine⟨_,rfl,⟨⟨_,af⟩,rfl⟩,?_⟩;simp only[Act.put,pgE,pjE];have D:=World.ownsRow_lit (size:=2) (e:=187) wr.drew #[] 0 (Nat.le_refl _) (by decide) rfl;change(wr.drew.alloc (.cells #[] 187)).ownsRow wr.heap.size _ _ (.slice (some ⟨wr.heap.size,0,none⟩) 0 0) 0 []at D;refine ona 17 2 rfl (by kernel_rfl) ?_;refine z0A _ rfl _ _ rfl wr.heap.size wr.heap.size rfl D nb d nc rfl (hR.below O) ad (by omega) (by simp) ?_;intro a7 c7 w7 y ag;have L:Below wr.heap.size wr w7:=O.trans ag;have z:Below w.heap.size wr w7:=L.mono (by omega);clear D
    go_wp2
    refine ThenGo.to ⟨⟨⟨_,z⟩,rfl⟩,?_⟩;simp only[Act.put,pgE,pjE];refine sgr [(18,1)] 1 (by kernel_rfl) ⟨⟨_,z⟩,rfl⟩ ?_;simp only[pkE];repeat go_big_quiet_step (fail)
    refine wpQuiet_nil ?_;refine ona 19 0 rfl (by kernel_rfl) ?_;replace B0:=B0.below L;obtain⟨p0,p1,p2⟩:=B0.cel3;obtain⟨f0,f1,f2⟩:=B0.frz3;have aI:=B0.lt;have aj:Below w.heap.size w w7:=av.trans z;have ae:=((z.setCell (p:=⟨w.heap.size,0,none⟩) (Nat.le_refl _) (.int .i64 0)).setCell (p:=⟨w.heap.size,1,none⟩) (Nat.le_refl _) (.int .i64 vv)).setCell (p:=⟨w.heap.size,2,none⟩) (Nat.le_refl _) (.slice a7 d.length c7);clear B0 Y
    go_wp2
    refine ThenGo.to ⟨⟨⟨_,ae⟩,rfl⟩,?_⟩;refine z0f (by kernel_rfl) ?_
    go_wp2
    refine bodyPost_ret (v:=.agg #[.int .i64 0,.int .i64 vv,.slice a7 d.length c7]) (by simp[results,Tryz.results134,go_sem,p0,p1,p2]) rfl ?_;rw[HE.out.1,HE.out.2.1,HE.out.2.2];refine⟨_,_,rfl,?_,?_⟩
    ·refine z0p (base:=wr.heap.size) ?_ (by omega);repeat' (refine ownsRow_setCell_below ?_ (by dsimp only;omega) _)
     exact y
    ·repeat' (refine Below.setCell ?_ (by dsimp only;omega) _)
     exact aj
end
section
variable {ops:Array Oper} {rest:List Oper} {o:Oper} {a:Act} {Q:Exit→Act→World→Prop}
theorem z03{P:Type}{K:Kind P}(w:World)(y:o.guard=none)(s x:Operand)(t:TypeId)(ho:o.op=.call {callee:=.builtin .append,args:=#[s,x],argTypes:=#[t,t]})
  (i0:TypeInfo) (z:Value) (d:Nat) (ht:Tryz.prog.underlying t=some (.slice K.ty)) (hi:Tryz.prog.info? K.ty=some i0) (C:i0.zero=some z) (D:i0.size=K.size) (E:i0.bytes=d) (I:z.cells.size=K.size) (A:0<K.size)
  (B:Nat) (v:Value) (rs:List P) (hs:a.eval s=v) (c:w.ownsRow B K.ty K.size v rs.length (K.row rs)) (sa:Option Addr) (xs:List P) (sc:Nat) (hx:a.eval x=.slice sa xs.length sc) (hr:Lies w sa (K.row xs)) (h1:∀u∈K.row xs,u.oneCell'=true) (hN:z7l sa xs.length sc)
  (hm:rs.length+xs.length≤maxLen) (hb:(rs.length+xs.length)*d≤140737488355328) (hB:B≤w.heap.size)
  (h:∀v' w',w'.ownsRow B K.ty K.size v' (rs++xs).length (K.row (rs++xs))→w.grownBy w' v.ownBlock→wpList Tryz.prog ops Q rest (a.put o.dst v') w'):wpList Tryz.prog ops Q (o::rest) a w:=by
 have e:K.row (rs++xs)=K.row rs++K.row xs:=by simp[Kind.row]
 rw[e,List.length_append]at h;rcases hN with⟨ad,rfl⟩|⟨rfl,hn,rfl⟩
 ·exact wpList_append_own w y s x t ho B K.ty i0 z K.size d ht hi C D E I A v rs.length (K.row rs) hs c ad xs.length sc (K.row xs) hx (Kind.row_length xs) (z7n hr) h1 hm hb hB (fun v' w' h2 h3 _=>h v' w' h2 h3)
 ·have hz:xs=[]:=List.eq_nil_of_length_eq_zero hn;subst hz;refine wpList_append_own_none y s x t ho B K.ty i0 K.size ht hi v rs.length (K.row rs) hs c hx ?_;exact h _ _ (by simpa[Kind.row]using c) (World.grownBy.refl _ _)
end
def z30(v:Value):Prop:=∀a n c,v=.slice a n c→z7l a n c
theorem Kind.Own.niceV{P:Type}{K:Kind P}{w:World}{v:Value}{ps:List P}(h:K.Own w v ps):z30 v:=by
 intro a n c e;rcases h.1.2 with⟨h1,_⟩|⟨g,cap,cur,h1,_⟩
 ·rw[h1]at e;simp only[Value.slice.injEq]at e;obtain⟨rfl,rfl,rfl⟩:=e;exact Or.inr ⟨rfl,rfl,rfl⟩
 ·rw[h1]at e;simp only[Value.slice.injEq]at e;obtain⟨rfl,_,_⟩:=e;exact Or.inl ⟨_,rfl⟩
theorem z6p{w:World}{ps:List TxnQ}(h:∀p∈ps,txnK.rd w p):∀u∈txnK.row ps,u.oneCell'=true:=by
 intro u hu;obtain⟨p,hp,hu⟩:=List.mem_flatMap.1 hu;have hr:actK.At w p.va p.acts:=h p hp;obtain⟨a,c,e⟩:=hr.shape;have hu:u∈[Value.int .i64 p.i,.int .i64 p.s,.int .i64 p.q,p.va]:=hu;rw[e]at hu;simp only[List.mem_cons,List.not_mem_nil,or_false]at hu;rcases hu with rfl|rfl|rfl|rfl<;>rfl
theorem q08(n:Nat)(w:World)(hn:n≤1000):
  Calls Tryz.prog 145 #[.slice none 0 0,.int .i64 n] w fun e w'=>∃v,e=.returned v∧w'.ownsRow w.heap.size 82 4 v 0 []∧Below w.heap.size w w':=by
 obtain⟨i0,hi,hz0,hz1,hz2⟩:=info_parts z09;by_cases h0:n=0
 ·subst h0;go_enter Tryz.func145,Tryz.ntmps145
  go_wp2
  go_ret;exact⟨_,rfl,World.ownsRow_nil _ _ _ _,Below.refl _ _⟩
 ·have hap:=Lib.run_append_nil_zeros (P:=Tryz.prog) w 40 3 40 82 i0 (.agg #[.int .i64 0,.int .i64 0,.int .i64 0,.slice none 0 0]) .i64 .i64 Tryz.underlying40 Tryz.underlying3 hi hz0 n (by omega) (by rw[hz1];decide) (by omega) (by rw[hz2];omega);have hge:=grownCap_ge w n 0 82;have hle:=grownCap_le_maxLen w n 0 82 (by unfold maxLen;omega);generalize grownCap w n 0 82=cp at*;have hsz:(Builtin.zeroCells (Value.agg #[.int .i64 0,.int .i64 0,.int .i64 0,.slice none 0 0]).cells n++Builtin.zeroCells (Value.agg #[.int .i64 0,.int .i64 0,.int .i64 0,.slice none 0 0]).cells (cp-n)).size=cp*4:=by
   rw[Array.size_append,size_zeroCells,size_zeroCells];show n*4+(cp-n)*4=cp*4;omega
  have ho:=World.ownsRow_made (base:=w.heap.size) (e:=82) (size:=4) w.drew _ cp (by simp) hle hsz;have hB:Below w.heap.size w (w.drew.alloc (.cells (Builtin.zeroCells (Value.agg #[.int .i64 0,.int .i64 0,.int .i64 0,.slice none 0 0]).cells n++Builtin.zeroCells (Value.agg #[.int .i64 0,.int .i64 0,.int .i64 0,.slice none 0 0]).cells (cp-n)) 82)):=by go_grown
  generalize (Builtin.zeroCells (Value.agg #[.int .i64 0,.int .i64 0,.int .i64 0,.slice none 0 0]).cells n++Builtin.zeroCells (Value.agg #[.int .i64 0,.int .i64 0,.int .i64 0,.slice none 0 0]).cells (cp-n))=cz at*;have hni:(0:Int)<(n:Int):=by omega
  have hcpi:(0:Int)≤(cp:Int):=by omega
  go_enter Tryz.func145,Tryz.ntmps145
  go_wp2_with (at_builtin;refine Lib.wpList_append_run _ rfl _ _ _ _ rfl _ _ rfl rfl _ _ hap ?_)
  go_wp2
  go_ret;exact⟨_,rfl,ho,hB⟩
theorem z8d(b cp:Nat)(v1 v2:Value)(ps qs:List TxnQ)(w:World)(hb:b<w.heap.size)(k0:w.cell? ⟨b,0,none⟩=some v1)(k1:w.cell? ⟨b,1,none⟩=some v2)(h1:txnK.At w v1 ps)(h2:txnK.At w v2 qs)(n1:z30 v1)(n2:z30 v2)(hl:ps.length+qs.length≤1000):
  Calls Tryz.prog 120 #[.slice (some ⟨b,0,none⟩) 2 cp] w fun e w'=>∃v,e=.returned v∧w'.ownsRow w.heap.size 82 4 v (ps++qs).length (txnK.row (ps++qs))∧Below w.heap.size w w':=by
 obtain⟨i0,hi,C,D,E⟩:=info_parts z09;obtain⟨a1,c1,rfl⟩:=h1.shape;obtain⟨a2,c2,rfl⟩:=h2.shape;have m1:=n1 _ _ _ rfl;have m2:=n2 _ _ _ rfl;clear n1 n2;have L:(ps.length:Int)≤1000:=by omega
 have M:(qs.length:Int)≤1000:=by omega
 have A:((ps.length+qs.length:Nat):Int)=(ps.length:Int)+(qs.length:Int):=by omega
 go_enter Tryz.func120,Tryz.ntmps120
 go_wp2
 go_loopw[3,11] (fun s i wr=>∃k:Nat,k≤2∧i=.int .i64 k∧s=.int .i64 (if k=0 then 0 else if k=1 then(ps.length:Int)else(ps.length:Int)+(qs.length:Int))∧wr=w) (fun _ i _=>2-(intOf i).toNat)
 case atStart=>exact⟨0,by omega,rfl,rfl,rfl⟩
 case round=>
  obtain⟨k,hk,rfl,rfl,rfl⟩:=hrel;obtain rfl|rfl|rfl:k=0∨k=1∨k=2:=by omega
  ·go_wp2
   go_roundw
   case rel=>exact⟨1,by omega,by go_num,by first|rfl|(congr 1;simp)|simp,by trivial⟩
   case measure=>simp[intOf]
  ·go_wp2
   go_roundw
   case rel=>exact⟨2,by omega,by go_num,by first|rfl|(congr 1;simp)|simp,by trivial⟩
   case measure=>simp[intOf]
  ·obtain⟨U,rfl⟩:∃U,U=wr:=⟨_,rfl⟩
   have hg:=q08 (ps.length+qs.length) U (by omega);rw[A]at hg;simp only[show¬(2=0) by decide,show¬(2=1) by decide,if_false]
   go_wp2_with fail
   refine hg.mono ?_;rintro e w2 ⟨v,rfl,ho,hB⟩;obtain⟨sa,sc,rfl⟩:=z0g ho;clear hg
   go_wp2
   go_loopw[6,27] (fun s i wx=>∃ (k:Nat) (rs:List TxnQ),k≤2∧i=.int .i64 k∧Hid (rs=if k=0 then []else if k=1 then ps else ps++qs)∧wx.ownsRow U.heap.size 82 4 s rs.length (txnK.row rs)∧Below U.heap.size U wx) (fun _ i _=>2-(intOf i).toNat)
   case atStart=>exact⟨0,[],by omega,rfl,(rfl:_=_),ho,hB⟩
   case round=>
    clear ho hB;obtain⟨k,rs,hk,rfl,HR,ho,hB⟩:=hrel;obtain⟨sa,sc,rfl⟩:=z0g ho;have g1:=(h1.below hB)
    have g2:=(h2.below hB)
    obtain⟨_,_,e1,l1,r1⟩:=g1;obtain⟨_,_,e2,l2,r2⟩:=g2;simp only[Value.slice.injEq,true_and]at e1 e2;obtain⟨rfl,rfl⟩:=e1;obtain⟨rfl,rfl⟩:=e2;have o1:=z6p r1;have o2:=z6p r2;have d0:=(hB.cell (p:=⟨b,0,none⟩) hb).trans k0;have d1:=(hB.cell (p:=⟨b,1,none⟩) hb).trans k1;have y:=hB.size;obtain rfl|rfl|rfl:k=0∨k=1∨k=2:=by omega
    ·have x:rs=[]:=HR.out;subst x;have x1:([]:List TxnQ).length+ps.length≤maxLen:=by unfold maxLen;rw[List.length_nil];omega
     have x2:(([]:List TxnQ).length+ps.length)*48≤140737488355328:=by rw[List.length_nil];omega
     go_wp2_with (at_builtin;refine z03 (K:=txnK) _ rfl _ _ 40 rfl i0 (.agg #[.int .i64 0,.int .i64 0,.int .i64 0,.slice none 0 0]) 48 Tryz.underlying40 hi C D E rfl (by decide) U.heap.size _ [] rfl ho _ ps _ rfl l1 o1 m1 x1 x2 y ?_)
     intro v' w5 c d;have z:Below U.heap.size U w5:=hB.grown d (by omega) (fun k hk=>(ho.lt k hk).1);obtain⟨I,J,rfl⟩:=z0g c;clear d0 d1 l1 l2 o1 o2 r1 r2 ho d hB HR;try simp only[List.nil_append]at c⊢
     go_wp2
     go_roundw
     case rel=>exact⟨1,ps,by omega,by go_num,(rfl:_=_),(by first|exact c|(rw[List.length_append];exact c)|simpa using c),z⟩
     case measure=>simp[intOf]
    ·have x:rs=ps:=HR.out;subst x;have x1:rs.length+qs.length≤maxLen:=by unfold maxLen;omega
     have x2:(rs.length+qs.length)*48≤140737488355328:=by omega
     go_wp2_with (at_builtin;refine z03 (K:=txnK) _ rfl _ _ 40 rfl i0 (.agg #[.int .i64 0,.int .i64 0,.int .i64 0,.slice none 0 0]) 48 Tryz.underlying40 hi C D E rfl (by decide) U.heap.size _ rs rfl ho _ qs _ rfl l2 o2 m2 x1 x2 y ?_)
     intro v' w5 c d;have z:Below U.heap.size U w5:=hB.grown d (by omega) (fun k hk=>(ho.lt k hk).1);obtain⟨I,J,rfl⟩:=z0g c;clear d0 d1 l1 l2 o1 o2 r1 r2 ho d hB HR
     go_wp2
     go_roundw
     case rel=>exact⟨2,rs++qs,by omega,by go_num,(rfl:_=_),(by first|exact c|(rw[List.length_append];exact c)|simpa using c),z⟩
     case measure=>simp[intOf]
    ·have x:rs=ps++qs:=HR.out;subst x;clear d0 d1 l1 l2 o1 o2 r1 r2 HR
     go_wp2
     go_ret;exact⟨_,rfl,ho,hB⟩
structure DeedQ where
 i:Int
 s:Int
 q:Int
 va:Value
 acts:List ActD
 code:Int
 val:Int
 lv:Value
 us:List UndoD
def z4T(w0:World):Kind DeedQ where
 ty:=271
 size:=6
 cells p:=[.int .i64 p.i,.int .i64 p.s,.int .i64 p.q,p.va,.int .i64 p.code,.int .i64 p.val]
 own _ p:=actK.At w0 p.va p.acts
 rd _ p:=actK.At w0 p.va p.acts
 foot _:=[]
 len _:=rfl
 own_rd h:=h
 own_out h _ _:=h
 own_lt _ k hk:=by simp at hk
 rd_below h _:=h
def z3R(w0:World):Kind DeedQ where
 ty:=239
 size:=7
 cells p:=[.int .i64 p.i,.int .i64 p.s,.int .i64 p.q,p.va,.int .i64 p.code,.int .i64 p.val,p.lv]
 own w p:=actK.At w0 p.va p.acts∧undoK.Own w p.lv p.us
 rd w p:=actK.At w0 p.va p.acts∧undoK.At w p.lv p.us
 foot p:=undoK.fp p.lv p.us
 len _:=rfl
 own_rd h:=⟨h.1,h.2.at⟩
 own_out h ho hd:=⟨h.1,h.2.out ho hd⟩
 own_lt h:=h.2.lt
 rd_below h hb:=⟨h.1,h.2.below hb⟩
theorem q09:(Tryz.prog.info? 271).map (fun i=>(i.zero,i.size,i.bytes))=some (some (.agg #[.int .i64 0,.int .i64 0,.int .i64 0,.slice none 0 0,.int .i64 0,.int .i64 0]),6,72):=by kernel_rfl
theorem q1a:(Tryz.prog.info? 239).map (fun i=>(i.zero,i.size,i.bytes))=some (some (.agg #[.int .i64 0,.int .i64 0,.int .i64 0,.slice none 0 0,.int .i64 0,.int .i64 0,.slice none 0 0]),7,88):=by kernel_rfl
theorem q17(rb:Nat)(d0 i0:Value)(r2 r3:Value)(m:Nat)(xs:List Value)(i s q:Int)(va:Value)(c d:Int)(vu:Value)(ia:Option Addr)(il ic:Nat)(w:World)(B:Blk w rb 160 #[d0,i0,r2,r3])(ho:w.ownsRow 0 271 6 d0 m xs)(M:rb∉blk d0)(hm:m≤100)(ao:va.oneCell'=true):
  Calls Tryz.prog 146 #[.pointer (some ⟨rb,0,none⟩),.agg #[.int .i64 i,.int .i64 s,.int .i64 q,va],.agg #[.int .i64 c,.int .i64 d,vu,.slice ia il ic],.agg #[]] w fun e w'=>e=.returned (.tuple #[])∧∃d1,Blk w' rb 160 #[d1,(if c=0 then .slice ia il ic else i0),r2,r3]∧w'.ownsRow 0 271 6 d1 (m+1) (xs++[.int .i64 i,.int .i64 s,.int .i64 q,va,.int .i64 c,.int .i64 d])∧(d1.ownBlock=d0.ownBlock∨∃g,d1.ownBlock=some g∧w.heap.size≤g)∧Out (rb::blk d0) w w':=by
 obtain⟨sa,sc,rfl⟩:=z0g ho;obtain⟨it,hi,aq,ar,au⟩:=info_parts q09;have aw:=B.lt;have Z:∀k∈blk (Value.slice sa m sc),k<w.heap.size:=fun k hk=>(ho.lt k (by simpa[blk]using hk)).2
 have E:Below w.heap.size w (((w.alloc (.cells #[.int .i64 i,.int .i64 s,.int .i64 q,va] 82)).alloc (.cells #[.int .i64 c,.int .i64 d,vu,.slice ia il ic] 218)).alloc (.cells #[] 233)):=by go_grown
 have Bt:=(Blk.new w 82 #[.int .i64 i,.int .i64 s,.int .i64 q,va]).below (w':=(((w.alloc (.cells #[.int .i64 i,.int .i64 s,.int .i64 q,va] 82)).alloc (.cells #[.int .i64 c,.int .i64 d,vu,.slice ia il ic] 218)).alloc (.cells #[] 233))) (by go_grown);have Bn:=(Blk.new (w.alloc (.cells #[.int .i64 i,.int .i64 s,.int .i64 q,va] 82)) 218 #[.int .i64 c,.int .i64 d,vu,.slice ia il ic]).below (w':=(((w.alloc (.cells #[.int .i64 i,.int .i64 s,.int .i64 q,va] 82)).alloc (.cells #[.int .i64 c,.int .i64 d,vu,.slice ia il ic] 218)).alloc (.cells #[] 233))) (by go_grown);simp only[World.size_alloc]at Bn;have ad:w.heap.size+1<(((w.alloc (.cells #[.int .i64 i,.int .i64 s,.int .i64 q,va] 82)).alloc (.cells #[.int .i64 c,.int .i64 d,vu,.slice ia il ic] 218)).alloc (.cells #[] 233)).heap.size:=by simp only[World.size_alloc];omega
 replace B:=B.below E;replace ho:=z0d ho E;have V:Out (rb::blk (.slice sa m sc)) w (((w.alloc (.cells #[.int .i64 i,.int .i64 s,.int .i64 q,va] 82)).alloc (.cells #[.int .i64 c,.int .i64 d,vu,.slice ia il ic] 218)).alloc (.cells #[] 233)):=Out.of_below E;have O:Hid (∀k∈blk (Value.slice sa m sc),k≠w.heap.size∧k≠w.heap.size+1):=fun k hk=>by
  have:=Z k hk;exact⟨by omega,by omega⟩
 go_enter Tryz.func146,Tryz.ntmps146
 go_wp2_with fail
 generalize (((w.alloc (.cells #[.int .i64 i,.int .i64 s,.int .i64 q,va] 82)).alloc (.cells #[.int .i64 c,.int .i64 d,vu,.slice ia il ic] 218)).alloc (.cells #[] 233))=W at*;generalize hH:w.heap.size=H at*;have J:Blk W rb 160 #[.slice sa m sc,i0,r2,r3]∧Blk W H 82 #[.int .i64 i,.int .i64 s,.int .i64 q,va]∧Blk W (H+1) 218 #[.int .i64 c,.int .i64 d,vu,.slice ia il ic]:=⟨B,Bt,Bn⟩
 generalize hP:(fun u:World=>Blk u rb 160 #[.slice sa m sc,i0,r2,r3]∧Blk u H 82 #[.int .i64 i,.int .i64 s,.int .i64 q,va]∧Blk u (H+1) 218 #[.int .i64 c,.int .i64 d,vu,.slice ia il ic])=PP;have T:PP W:=by subst hP;exact J
 have ae:∀u:KeepP PP,u.val.cell? ⟨rb,0,none⟩=some (.slice sa m sc):=fun u=>by have:=u.isP;subst hP;exact this.1.cell 0 _ rfl
 have ah:∀u:KeepP PP,u.val.cell? ⟨H,0,none⟩=some (.int .i64 i):=fun u=>by have:=u.isP;subst hP;exact this.2.1.cell 0 _ rfl
 have ai:∀u:KeepP PP,u.val.cell? ⟨H,1,none⟩=some (.int .i64 s):=fun u=>by have:=u.isP;subst hP;exact this.2.1.cell 1 _ rfl
 have aj:∀u:KeepP PP,u.val.cell? ⟨H,2,none⟩=some (.int .i64 q):=fun u=>by have:=u.isP;subst hP;exact this.2.1.cell 2 _ rfl
 have ak:∀u:KeepP PP,u.val.cell? ⟨H,3,none⟩=some va:=fun u=>by have:=u.isP;subst hP;exact this.2.1.cell 3 _ rfl
 have af:∀u:KeepP PP,u.val.cell? ⟨H+1,0,none⟩=some (.int .i64 c):=fun u=>by have:=u.isP;subst hP;exact this.2.2.cell 0 _ rfl
 have ag:∀u:KeepP PP,u.val.cell? ⟨H+1,1,none⟩=some (.int .i64 d):=fun u=>by have:=u.isP;subst hP;exact this.2.2.cell 1 _ rfl
 have am:Nonempty (KeepP PP):=⟨⟨W,T⟩⟩
 refine z6Y (S:=fun w'=>∃u:KeepP PP,w'=u.val) (R:=fun _ _=>False) 16 (by kernel_rfl) (fun _ _ _ _ h=>h.elim) ?_;have U:PP W.drew:=by subst hP;exact J
 refine sgX [(0,12)] 5 (by kernel_rfl) ⟨⟨W.drew,U⟩,rfl⟩ ?_;simp only[pkE];repeat go_big_quiet_step (fail)
 refine wpQuiet_nil ?_;generalize hz:Array.foldl _ _ _ _ _=cz;have ap:cz=#[.int .i64 i,.int .i64 s,.int .i64 q,va,.int .i64 c,.int .i64 d]:=by rw[←hz];rfl
 subst ap;clear hz;clear ae ah ai aj ak af ag am T;replace B:Blk W.drew rb 160 #[.slice sa m sc,i0,r2,r3]:=B;replace Bt:Blk W.drew H 82 #[.int .i64 i,.int .i64 s,.int .i64 q,va]:=Bt;replace Bn:Blk W.drew (H+1) 218 #[.int .i64 c,.int .i64 d,vu,.slice ia il ic]:=Bn;replace ho:=ho.drew;have y:Out (rb::blk (.slice sa m sc)) w W.drew:=V.trans (Out.of_below (Below.refl _ _).drew);replace ad:H+1<W.drew.heap.size:=ad;clear U V E J;generalize W.drew=wd at*;refine onX 12 4 rfl (by kernel_rfl) ?_;have x:Below wd.heap.size wd (wd.alloc (.cells #[.int .i64 i,.int .i64 s,.int .i64 q,va,.int .i64 c,.int .i64 d] 271)):=by go_grown
 go_wp2
 have I:∀j u,[Value.int .i64 i,.int .i64 s,.int .i64 q,va,.int .i64 c,.int .i64 d][j]?=some u→(wd.alloc (.cells #[.int .i64 i,.int .i64 s,.int .i64 q,va,.int .i64 c,.int .i64 d] 271)).cell? ((⟨wd.heap.size,0,none⟩:Addr).add j)=some u:=by
  intro j u hj;match j,hj with|0,hj=>simp at hj;subst hj;simp[Addr.add]|1,hj=>simp at hj;subst hj;simp[Addr.add]|2,hj=>simp at hj;subst hj;simp[Addr.add]|3,hj=>simp at hj;subst hj;simp[Addr.add]|4,hj=>simp at hj;subst hj;simp[Addr.add]|5,hj=>simp at hj;subst hj;simp[Addr.add]
 replace B:=B.below x;replace Bt:=Bt.below x;replace Bn:=Bn.below x;replace ho:=z0d ho x;replace y:=y.trans (Out.of_below (F:=rb::blk (.slice sa m sc)) x);have ax:=x.size;refine ThenX.to ⟨Or.inr ⟨⟨_,by subst hP;exact⟨B,Bt,Bn⟩⟩,rfl⟩,?_⟩;generalize wd.alloc (.cells #[.int .i64 i,.int .i64 s,.int .i64 q,va,.int .i64 c,.int .i64 d] 271)=wb at*;refine onX 13 3 rfl (by kernel_rfl) ?_;refine wpList_append_own_at _ rfl _ _ 153 rfl 0 271 it (.agg #[.int .i64 0,.int .i64 0,.int .i64 0,.slice none 0 0,.int .i64 0,.int .i64 0]) 6 72 Tryz.underlying153 hi aq ar au rfl (by decide) _ m xs rfl ho ⟨wd.heap.size,0,none⟩ 1 1 [.int .i64 i,.int .i64 s,.int .i64 q,va,.int .i64 c,.int .i64 d] rfl rfl I ?c2 ?c3 ?c4 ?c5 ?_
 case c2=>intro u hu;simp at hu;rcases hu with rfl|rfl|rfl|rfl|rfl|rfl<;>first|rfl|exact ao
 case c3=>unfold maxLen;omega
 case c4=>omega
 case c5=>omega
 intro v' wc D A _ Y;obtain⟨a2,c2,rfl⟩:=z0g D;have z:Out (blk (.slice sa m sc)) wb wc:=Out.of_grown A;have C:∀k∈blk (Value.slice sa m sc),k≠H∧k≠H+1∧k≠rb:=fun k hk=>⟨(O.out k hk).1,(O.out k hk).2,fun e=>M (e▸hk)⟩
 replace B:=B.outs8 z (fun hk=>(C _ hk).2.2 rfl);replace Bt:=Bt.outs8 z (fun hk=>(C _ hk).1 rfl);replace Bn:=Bn.outs8 z (fun hk=>(C _ hk).2.1 rfl);replace y:=y.trans (z.mono (fun k hk=>List.mem_cons_of_mem _ hk))
 go_wp2
 refine ThenX.to ⟨Or.inr ⟨⟨_,by subst hP;exact⟨B,Bt,Bn⟩⟩,rfl⟩,?_⟩;have L:(Value.slice a2 (m+1) c2).ownBlock=(Value.slice sa m sc).ownBlock∨∃g,(Value.slice a2 (m+1) c2).ownBlock=some g∧H≤g:=by
  rcases Y with h|h
  ·exact Or.inl h
  ·exact Or.inr ⟨_,h,by omega⟩
 have ab:rb∉blk (Value.slice a2 (m+1) c2):=by
  intro hk;unfold blk at hk M;rcases L with h|⟨g,h,hg⟩
  ·rw[h]at hk;exact M hk
  ·rw[h]at hk;simp only[Option.toList,List.mem_singleton]at hk;omega
 clear Y A I x ho z;refine onX 14 2 rfl (by kernel_rfl) ?_
 go_wp2
 refine ThenX.to ⟨Or.inr ⟨⟨_,by subst hP;exact⟨B,Bt,Bn⟩⟩,rfl⟩,?_⟩;refine onX 15 1 rfl (by kernel_rfl) ?_
 go_wp2
 refine ThenX.to ⟨Or.inr ⟨⟨_,by subst hP;exact⟨B,Bt,Bn⟩⟩,rfl⟩,?_⟩;refine onX 16 0 rfl (by kernel_rfl) ?_;have k1:=B.cell 0 _ rfl;have k2:=B.frozen 0
 go_wp2
 clear k1 k2;refine ThenX.to ⟨Or.inl (by kernel_rfl),?_⟩;refine q33 (by kernel_rfl) ?_;have B1:Blk (wc.setCell ⟨rb,0,none⟩ (.slice a2 (m+1) c2)) rb 160 #[.slice a2 (m+1) c2,i0,r2,r3]:=by
  have:=B.set 0 (.slice a2 (m+1) c2);simpa using this
 have N:=Bn.other (b':=rb) (by omega) 0 (.slice a2 (m+1) c2);have aa:=z0L D (Out.setCell wc rb 0 (.slice a2 (m+1) c2)) (fun k hk e=>by simp only[List.mem_singleton]at e;subst e;exact ab hk);have X:=y.trans ((Out.setCell wc rb 0 (.slice a2 (m+1) c2)).mono (G:=rb::blk (.slice sa m sc)) (fun k hk=>by simp only[List.mem_singleton]at hk;subst hk;simp));generalize wc.setCell ⟨rb,0,none⟩ (.slice a2 (m+1) c2)=we at*;clear B Bn Bt D y;have n0:=N.cell 0 _ rfl;have n3:=N.cell 3 _ rfl;by_cases hc:c=0
 ·subst hc;have k1:=B1.cell 1 _ rfl;have k2:=B1.frozen 1;have B2:Blk (we.setCell ⟨rb,1,none⟩ (.slice ia il ic)) rb 160 #[.slice a2 (m+1) c2,.slice ia il ic,r2,r3]:=by
   have:=B1.set 1 (.slice ia il ic);simpa using this
  have an:=z0L aa (Out.setCell we rb 1 (.slice ia il ic)) (fun k hk e=>by simp only[List.mem_singleton]at e;subst e;exact ab hk);have al:=X.trans ((Out.setCell we rb 1 (.slice ia il ic)).mono (G:=rb::blk (.slice sa m sc)) (fun k hk=>by simp only[List.mem_singleton]at hk;subst hk;simp))
  go_wp2
  go_end0
  exact⟨rfl,_,B2,an,L,al⟩
 ·have av:(c==0)=false:=by simpa using hc
  go_wp2
  go_end0
  try rw[if_neg hc]
  exact⟨rfl,_,B1,aa,L,X⟩
theorem q18(rb:Nat)(d0 i0:Value)(r0 r1:Value)(m:Nat)(xs:List Value)(i s q:Int)(va:Value)(c d:Int)(vu:Value)(ia:Option Addr)(il ic:Nat)(la:Option Addr)(ln lc:Nat)(w:World)(B:Blk w rb 160 #[r0,r1,d0,i0])(ho:w.ownsRow 0 239 7 d0 m xs)(M:rb∉blk d0)(hm:m≤100)(ao:va.oneCell'=true):
  Calls Tryz.prog 148 #[.pointer (some ⟨rb,2,none⟩),.agg #[.int .i64 i,.int .i64 s,.int .i64 q,va],.agg #[.int .i64 c,.int .i64 d,vu,.slice ia il ic],.slice la ln lc] w fun e w'=>e=.returned (.tuple #[])∧∃d1,Blk w' rb 160 #[r0,r1,d1,(if c=0 then .slice ia il ic else i0)]∧w'.ownsRow 0 239 7 d1 (m+1) (xs++[.int .i64 i,.int .i64 s,.int .i64 q,va,.int .i64 c,.int .i64 d,.slice la ln lc])∧(d1.ownBlock=d0.ownBlock∨∃g,d1.ownBlock=some g∧w.heap.size≤g)∧Out (rb::blk d0) w w':=by
 obtain⟨sa,sc,rfl⟩:=z0g ho;obtain⟨it,hi,ap,aq,ar⟩:=info_parts q1a;have av:=B.lt;have Z:∀k∈blk (Value.slice sa m sc),k<w.heap.size:=fun k hk=>(ho.lt k (by simpa[blk]using hk)).2
 have E:Below w.heap.size w ((w.alloc (.cells #[.int .i64 i,.int .i64 s,.int .i64 q,va] 82)).alloc (.cells #[.int .i64 c,.int .i64 d,vu,.slice ia il ic] 218)):=by go_grown
 have Bt:=(Blk.new w 82 #[.int .i64 i,.int .i64 s,.int .i64 q,va]).below (w':=((w.alloc (.cells #[.int .i64 i,.int .i64 s,.int .i64 q,va] 82)).alloc (.cells #[.int .i64 c,.int .i64 d,vu,.slice ia il ic] 218))) (by go_grown);have Bn:=Blk.new (w.alloc (.cells #[.int .i64 i,.int .i64 s,.int .i64 q,va] 82)) 218 #[.int .i64 c,.int .i64 d,vu,.slice ia il ic];simp only[World.size_alloc]at Bn;have ad:w.heap.size+1<((w.alloc (.cells #[.int .i64 i,.int .i64 s,.int .i64 q,va] 82)).alloc (.cells #[.int .i64 c,.int .i64 d,vu,.slice ia il ic] 218)).heap.size:=by simp only[World.size_alloc];omega
 replace B:=B.below E;replace ho:=z0d ho E;have V:Out (rb::blk (.slice sa m sc)) w ((w.alloc (.cells #[.int .i64 i,.int .i64 s,.int .i64 q,va] 82)).alloc (.cells #[.int .i64 c,.int .i64 d,vu,.slice ia il ic] 218)):=Out.of_below E;have O:Hid (∀k∈blk (Value.slice sa m sc),k≠w.heap.size∧k≠w.heap.size+1):=fun k hk=>by
  have:=Z k hk;exact⟨by omega,by omega⟩
 go_enter Tryz.func148,Tryz.ntmps148
 go_wp2_with fail
 generalize ((w.alloc (.cells #[.int .i64 i,.int .i64 s,.int .i64 q,va] 82)).alloc (.cells #[.int .i64 c,.int .i64 d,vu,.slice ia il ic] 218))=W at*;generalize hH:w.heap.size=H at*;have J:Blk W rb 160 #[r0,r1,.slice sa m sc,i0]∧Blk W H 82 #[.int .i64 i,.int .i64 s,.int .i64 q,va]∧Blk W (H+1) 218 #[.int .i64 c,.int .i64 d,vu,.slice ia il ic]:=⟨B,Bt,Bn⟩
 generalize hP:(fun u:World=>Blk u rb 160 #[r0,r1,.slice sa m sc,i0]∧Blk u H 82 #[.int .i64 i,.int .i64 s,.int .i64 q,va]∧Blk u (H+1) 218 #[.int .i64 c,.int .i64 d,vu,.slice ia il ic])=PP;have T:PP W:=by subst hP;exact J
 have ae:∀u:KeepP PP,u.val.cell? ⟨rb,2,none⟩=some (.slice sa m sc):=fun u=>by have:=u.isP;subst hP;exact this.1.cell 2 _ rfl
 have ah:∀u:KeepP PP,u.val.cell? ⟨H,0,none⟩=some (.int .i64 i):=fun u=>by have:=u.isP;subst hP;exact this.2.1.cell 0 _ rfl
 have ai:∀u:KeepP PP,u.val.cell? ⟨H,1,none⟩=some (.int .i64 s):=fun u=>by have:=u.isP;subst hP;exact this.2.1.cell 1 _ rfl
 have aj:∀u:KeepP PP,u.val.cell? ⟨H,2,none⟩=some (.int .i64 q):=fun u=>by have:=u.isP;subst hP;exact this.2.1.cell 2 _ rfl
 have ak:∀u:KeepP PP,u.val.cell? ⟨H,3,none⟩=some va:=fun u=>by have:=u.isP;subst hP;exact this.2.1.cell 3 _ rfl
 have af:∀u:KeepP PP,u.val.cell? ⟨H+1,0,none⟩=some (.int .i64 c):=fun u=>by have:=u.isP;subst hP;exact this.2.2.cell 0 _ rfl
 have ag:∀u:KeepP PP,u.val.cell? ⟨H+1,1,none⟩=some (.int .i64 d):=fun u=>by have:=u.isP;subst hP;exact this.2.2.cell 1 _ rfl
 have am:Nonempty (KeepP PP):=⟨⟨W,T⟩⟩
 refine z6Y (S:=fun w'=>∃u:KeepP PP,w'=u.val) (R:=fun _ _=>False) 16 (by kernel_rfl) (fun _ _ _ _ h=>h.elim) ?_;have U:PP W.drew:=by subst hP;exact J
 refine sgX [(0,12)] 5 (by kernel_rfl) ⟨⟨W.drew,U⟩,rfl⟩ ?_;simp only[pkE];repeat go_big_quiet_step (fail)
 refine wpQuiet_nil ?_;clear ae ah ai aj ak af ag am T;replace B:Blk W.drew rb 160 #[r0,r1,.slice sa m sc,i0]:=B;replace Bt:Blk W.drew H 82 #[.int .i64 i,.int .i64 s,.int .i64 q,va]:=Bt;replace Bn:Blk W.drew (H+1) 218 #[.int .i64 c,.int .i64 d,vu,.slice ia il ic]:=Bn;replace ho:=ho.drew;have y:Out (rb::blk (.slice sa m sc)) w W.drew:=V.trans (Out.of_below (Below.refl _ _).drew);replace ad:H+1<W.drew.heap.size:=ad;clear U V E J;generalize W.drew=wd at*;refine onX 12 4 rfl (by kernel_rfl) ?_;have x:Below wd.heap.size wd (wd.alloc (.cells #[.int .i64 i,.int .i64 s,.int .i64 q,va,.int .i64 c,.int .i64 d,.slice la ln lc] 239)):=by go_grown
 go_wp2
 have I:∀j u,[Value.int .i64 i,.int .i64 s,.int .i64 q,va,.int .i64 c,.int .i64 d,.slice la ln lc][j]?=some u→(wd.alloc (.cells #[.int .i64 i,.int .i64 s,.int .i64 q,va,.int .i64 c,.int .i64 d,.slice la ln lc] 239)).cell? ((⟨wd.heap.size,0,none⟩:Addr).add j)=some u:=by
  intro j u hj;match j,hj with|0,hj=>simp at hj;subst hj;simp[Addr.add]|1,hj=>simp at hj;subst hj;simp[Addr.add]|2,hj=>simp at hj;subst hj;simp[Addr.add]|3,hj=>simp at hj;subst hj;simp[Addr.add]|4,hj=>simp at hj;subst hj;simp[Addr.add]|5,hj=>simp at hj;subst hj;simp[Addr.add]|6,hj=>simp at hj;subst hj;simp[Addr.add]
 replace B:=B.below x;replace Bt:=Bt.below x;replace Bn:=Bn.below x;replace ho:=z0d ho x;replace y:=y.trans (Out.of_below (F:=rb::blk (.slice sa m sc)) x);have aw:=x.size;refine ThenX.to ⟨Or.inr ⟨⟨_,by subst hP;exact⟨B,Bt,Bn⟩⟩,rfl⟩,?_⟩;generalize wd.alloc (.cells #[.int .i64 i,.int .i64 s,.int .i64 q,va,.int .i64 c,.int .i64 d,.slice la ln lc] 239)=wb at*;refine onX 13 3 rfl (by kernel_rfl) ?_;refine wpList_append_own_at _ rfl _ _ 156 rfl 0 239 it (.agg #[.int .i64 0,.int .i64 0,.int .i64 0,.slice none 0 0,.int .i64 0,.int .i64 0,.slice none 0 0]) 7 88 Tryz.underlying156 hi ap aq ar rfl (by decide) _ m xs rfl ho ⟨wd.heap.size,0,none⟩ 1 1 [.int .i64 i,.int .i64 s,.int .i64 q,va,.int .i64 c,.int .i64 d,.slice la ln lc] rfl rfl I ?c2 ?c3 ?c4 ?c5 ?_
 case c2=>intro u hu;simp at hu;rcases hu with rfl|rfl|rfl|rfl|rfl|rfl|rfl<;>first|rfl|exact ao
 case c3=>unfold maxLen;omega
 case c4=>omega
 case c5=>omega
 intro v' wc D A _ Y;obtain⟨a2,c2,rfl⟩:=z0g D;have z:Out (blk (.slice sa m sc)) wb wc:=Out.of_grown A;have C:∀k∈blk (Value.slice sa m sc),k≠H∧k≠H+1∧k≠rb:=fun k hk=>⟨(O.out k hk).1,(O.out k hk).2,fun e=>M (e▸hk)⟩
 replace B:=B.outs8 z (fun hk=>(C _ hk).2.2 rfl);replace Bt:=Bt.outs8 z (fun hk=>(C _ hk).1 rfl);replace Bn:=Bn.outs8 z (fun hk=>(C _ hk).2.1 rfl);replace y:=y.trans (z.mono (fun k hk=>List.mem_cons_of_mem _ hk))
 go_wp2
 refine ThenX.to ⟨Or.inr ⟨⟨_,by subst hP;exact⟨B,Bt,Bn⟩⟩,rfl⟩,?_⟩;have L:(Value.slice a2 (m+1) c2).ownBlock=(Value.slice sa m sc).ownBlock∨∃g,(Value.slice a2 (m+1) c2).ownBlock=some g∧H≤g:=by
  rcases Y with h|h
  ·exact Or.inl h
  ·exact Or.inr ⟨_,h,by omega⟩
 have ab:rb∉blk (Value.slice a2 (m+1) c2):=by
  intro hk;unfold blk at hk M;rcases L with h|⟨g,h,hg⟩
  ·rw[h]at hk;exact M hk
  ·rw[h]at hk;simp only[Option.toList,List.mem_singleton]at hk;omega
 clear Y A I x ho z;refine onX 14 2 rfl (by kernel_rfl) ?_
 go_wp2
 refine ThenX.to ⟨Or.inr ⟨⟨_,by subst hP;exact⟨B,Bt,Bn⟩⟩,rfl⟩,?_⟩;refine onX 15 1 rfl (by kernel_rfl) ?_
 go_wp2
 refine ThenX.to ⟨Or.inr ⟨⟨_,by subst hP;exact⟨B,Bt,Bn⟩⟩,rfl⟩,?_⟩;refine onX 16 0 rfl (by kernel_rfl) ?_;have k1:=B.cell 2 _ rfl;have k2:=B.frozen 2
 go_wp2
 clear k1 k2;refine ThenX.to ⟨Or.inl (by kernel_rfl),?_⟩;refine q33 (by kernel_rfl) ?_;have B1:Blk (wc.setCell ⟨rb,2,none⟩ (.slice a2 (m+1) c2)) rb 160 #[r0,r1,.slice a2 (m+1) c2,i0]:=by
  have:=B.set 2 (.slice a2 (m+1) c2);simpa using this
 have N:=Bn.other (b':=rb) (by omega) 2 (.slice a2 (m+1) c2);have aa:=z0L D (Out.setCell wc rb 2 (.slice a2 (m+1) c2)) (fun k hk e=>by simp only[List.mem_singleton]at e;subst e;exact ab hk);have X:=y.trans ((Out.setCell wc rb 2 (.slice a2 (m+1) c2)).mono (G:=rb::blk (.slice sa m sc)) (fun k hk=>by simp only[List.mem_singleton]at hk;subst hk;simp));generalize wc.setCell ⟨rb,2,none⟩ (.slice a2 (m+1) c2)=we at*;clear B Bn Bt D y;have n0:=N.cell 0 _ rfl;have n3:=N.cell 3 _ rfl;by_cases hc:c=0
 ·subst hc;have k1:=B1.cell 3 _ rfl;have k2:=B1.frozen 3;have B2:Blk (we.setCell ⟨rb,3,none⟩ (.slice ia il ic)) rb 160 #[r0,r1,.slice a2 (m+1) c2,.slice ia il ic]:=by
   have:=B1.set 3 (.slice ia il ic);simpa using this
  have an:=z0L aa (Out.setCell we rb 3 (.slice ia il ic)) (fun k hk e=>by simp only[List.mem_singleton]at e;subst e;exact ab hk);have al:=X.trans ((Out.setCell we rb 3 (.slice ia il ic)).mono (G:=rb::blk (.slice sa m sc)) (fun k hk=>by simp only[List.mem_singleton]at hk;subst hk;simp))
  go_wp2
  go_end0
  exact⟨rfl,_,B2,an,L,al⟩
 ·have au:(c==0)=false:=by simpa using hc
  go_wp2
  go_end0
  try rw[if_neg hc]
  exact⟨rfl,_,B1,aa,L,X⟩
def unA(xs:List ItemD)(a:ActD):UndoD:=⟨a.key,hasI xs a.key,valI xs a.key⟩
def unR:List ItemD→List ActD→List UndoD
 |_,[]=>[]
 |xs,a::r=>(if a.kind=4 then []else [unA xs a])++unR (actN xs a) r
def duU(xs:List ItemD)(i s q:Int)(zs:List ActD):List UndoD:=if exC xs i s q zs=0 then unR xs zs else []
theorem hasI_mem{xs:List ItemD}{k:Int}:hasI xs k=true↔∃y∈xs,y.key=k:=by simp[hasI]
theorem q1b{xs:List ItemD}{k:Int}(h:hasI xs k=false):valI xs k=0:=by
 unfold valI;have:xs.find? (fun x=>x.key==k)=none:=by
  rw[List.find?_eq_none];intro y hy;simp;intro e;rw[hasI_mem.2 ⟨y,hy,e⟩]at h;simp at h
 rw[this]
theorem z4U:∀ {zs:List ActD} {xs:List ItemD},xs.length≤8→Good xs→(∀a∈zs,actF a=0)→(z0t xs zs).1=0→(unR xs zs).length≤zs.length∧∀u∈unR xs zs,q4F u=0
 |[],xs,_,_,_,_=>by simp[unR]
 |a::r,xs,hl,g,ha,h=>by
  simp only[z0t,unR]at h⊢;by_cases e:actC xs a=0
  ·rw[if_pos e]at h;obtain⟨h1,h2⟩:=z2n hl g (ha a (by simp)) e;obtain⟨i1,i2⟩:=z4U h1 h2 (fun b hb=>ha b (by simp[hb])) h;have hone:q4F (unA xs a)=0:=by
    obtain⟨_,hy,_⟩:=z1D (ha a (by simp));have hv:=g.valI a.key;have k1:inW a.key 1 20=true:=by simp[inW];omega
    have k2:inW (valI xs a.key) (-20000) 20000=true:=by simp[inW];omega
    unfold q4F unA;dsimp only;rw[k1,k2]
    cases hh:hasI xs a.key
    ·simp[q1b hh]
    ·simp
   constructor
   ·rw[List.length_append,List.length_cons];split<;>simp<;>omega
   ·intro u hu;rcases List.mem_append.1 hu with hu|hu
    ·split at hu
     ·simp at hu
     ·simp at hu;rw[hu];exact hone
    ·exact i2 u hu
  ·rw[if_neg e]at h;exact absurd h e
section
open Go.Maps Go.Sort Go.Shelf
theorem ShelfAt.under{w w':World}{B b:Nat}{xs:List ItemD}(h:ShelfAt w b xs)(hb:Below B w w')(hlt:b<B):ShelfAt w' b xs:=by
 obtain⟨es,clock,hh,r⟩:=h;exact⟨es,clock,(hb.block b hlt).trans hh,r⟩
theorem z4V{w w':World}{lo hi b j:Nat}{v:Value}(h:w.cell? ⟨b,j,none⟩=some v)(ho:Only lo hi w w')(hb:b<lo∨hi≤b):w'.cell? ⟨b,j,none⟩=some v:=by
 have hlt:=World.block_lt_of_cell? w _ h;have e:=ho.block b hlt hb;simp only[World.cell?]at h⊢;rw[e];exact h
theorem z2x(xs:List UndoD)(z:UndoD):z0n (xs++[z])=z0n xs++[.int .i64 z.key,.bool z.was,.int .i64 z.val]:=by simp[z0n,UndoD.cells]
theorem z8E(xs:List ItemD)(a:ActD)(r:List ActD):unR xs (a::r)=(if a.kind=4 then []else [unA xs a])++unR (actN xs a) r:=rfl
theorem z8e(sb:Nat)(xs:List ItemD)(ta:Option Addr)(tc:Nat)(zs:List ActD)(w:World)(h:ShelfAt w sb xs)(h8:xs.length≤8)(g:Good xs)(ht:ActRow w ta zs)(ap:∀b af,ta=some ⟨b,af,none⟩→b≠sb)(aB:zs.length≤4)(Y:∀a∈zs,actF a=0)(hrun:(z0t xs zs).1=0):
  Calls Tryz.prog 182 #[.map (some sb),.slice ta zs.length tc] w fun e w'=>∃b c,e=.returned (.slice b (unR xs zs).length c)∧
   w'.ownsRow w.heap.size 223 3 (.slice b (unR xs zs).length c) (unR xs zs).length (z0n (unR xs zs))∧Only sb (sb+1) w w':=by
 obtain⟨i0,hi,aw,ax,ay⟩:=info_parts z34;have ad:=h.lt;have HA:Hid (∀a∈zs,actF a=0):=Y;have ao:Hid ((z0t xs zs).1=0):=hrun;clear Y hrun;go_enter Tryz.func182,Tryz.ntmps182
 go_wp2
 go_loopw[5,12] (fun v j wr=>∃ (k:Nat) (d:List ItemD) (D:List UndoD),k≤zs.length∧j=.int .i64 k∧ShelfAt wr sb d∧d.length≤8∧D.length≤k∧Hid (Good d∧(z0t d (zs.drop k)).1=0∧unR xs zs=D++unR d (zs.drop k))∧wr.ownsRow w.heap.size 223 3 v D.length (z0n D)∧Only sb (sb+1) w wr) (fun _ j _=>zs.length-(intOf j).toNat)
 case atStart=>exact⟨0,xs,[],Nat.zero_le _,rfl,h,h8,Nat.zero_le _,⟨g,by simpa using ao.out,by simp⟩,World.ownsRow_nil _ _ _ _,Only.refl _ _ _⟩
 case round=>
  obtain⟨k,d,D,hk,rfl,hS,ak,hD,HG,ho,hO⟩:=hrel;obtain⟨a1,c1,rfl⟩:=z0g ho;have av:w.heap.size≤wr.heap.size:=hO.size;by_cases X:k<zs.length
  ·obtain⟨b,af,rfl,az,J,L,M⟩:=ht.at k X;have aA:=ap b af rfl;replace J:=z4V J hO (by omega);replace L:=z4V L hO (by omega);replace M:=z4V M hO (by omega);have W:=HA.out (zs.getD k z0e) (by simp[List.getD,X]);obtain⟨_,Z,_⟩:=z1D W;have hrun:=HG.out.2.1;have ae:=HG.out.2.2;rw[z3b X,z1r]at hrun;rw[z3b X,z8E]at ae;have hF:actC d (zs.getD k z0e)=0:=by
    by_cases hF:actC d (zs.getD k z0e)=0
    ·exact hF
    ·rw[if_neg hF]at hrun;exact absurd hrun hF
   rw[if_pos hF]at hrun;obtain⟨ab,al⟩:=z2n ak HG.out.1 W hF;have y:=fun w h=>q2y sb d (zs.getD k z0e).kind (zs.getD k z0e).key (zs.getD k z0e).val w h ak HG.out.1 W
   change∀w h,Calls _ _ _ _ fun e w'=>e=.returned (.int .i64 (actC d (zs.getD k z0e)))∧(actC d (zs.getD k z0e)=0→ShelfAt w' sb (actN d (zs.getD k z0e)))∧_ at y
   rw[hF]at y;have HN:Hid (Good (actN d (zs.getD k z0e))∧(z0t (actN d (zs.getD k z0e)) (zs.drop (k+1))).1=0):=⟨al,hrun⟩
   have HU:Hid (unR xs zs=D++((if(zs.getD k z0e).kind=4 then []else [unA d (zs.getD k z0e)])++unR (actN d (zs.getD k z0e)) (zs.drop (k+1)))):=ae;clear hrun ae al W HG hF;generalize actN d (zs.getD k z0e)=nx at y HN HU ab;generalize zs.getD k z0e=z at J L M y HU Z;obtain⟨z0,z1,z2⟩:=z;dsimp only at J L M y HU Z;have V:ShelfAt (wr.alloc (.cells #[.int .i64 z0,.int .i64 z1,.int .i64 z2] 118)) sb d:=hS.below (by go_grown);have O:Below wr.heap.size wr (wr.alloc (.cells #[.int .i64 z0,.int .i64 z1,.int .i64 z2] 118)):=by go_grown
   have Bz:=Blk.new wr 118 #[.int .i64 z0,.int .i64 z1,.int .i64 z2];by_cases h4:z0=4
   ·subst h4;have N:Hid (unR xs zs=D++unR nx (zs.drop (k+1))):=by
     show _=_;simpa using HU.out
    have ar:((4:Int) !=4)=false:=by decide
    go_wp2_with fail
    refine(y _ V).mono ?_;rintro e w3 ⟨rfl,T,I⟩;have RR:Hid (_∧_∧_):=⟨T trivial,z1G (z0d ho O) I ad,(hO.trans (Only.of_below O)).trans I⟩
    clear T ho hO I y hS V O Bz J L M
    go_wp2
    go_roundw
    case rel=>exact⟨k+1,nx,D,by omega,by go_num,RR.out.1,ab,by omega,⟨HN.out.1,HN.out.2,N.out⟩,RR.out.2.1,RR.out.2.2⟩
    case measure=>simp[intOf];omega
   ·have N:Hid (unR xs zs=(D++[⟨z1,hasI d z1,valI d z1⟩])++unR nx (zs.drop (k+1))):=by
     have:=HU.out;rw[if_neg h4]at this;show _=_;simpa[unA]using this
    have ar:(z0 !=4)=true:=by simpa using h4
    have A:∀ (w:World) (_:ShelfAt w sb d) (ops:Array Oper) (rest:List Oper) (o:Oper) (a:Act) (Q:Exit→Act→World→Prop) (hg:o.guard=none) (m x:Operand) (an:o.op=Op.lookup 274 m x true) (hm:a.eval m=.map (some sb)) (hx:a.eval x=.int .i64 z1) (hK:wpList Tryz.prog ops Q rest (a.put o.dst (.tuple #[.int .i64 (valI d z1),.bool (hasI d z1)])) w),wpList Tryz.prog ops Q (o::rest) a w:=
     fun w h ops rest o a Q hg m x an hm hx hK=>z2f w hg m x an sb d hm h z1 hx (by omega) hK
    clear h4 HU;generalize valI d z1=c at A N;generalize hasI d z1=t at A N;have am:((wr.alloc (.cells #[.int .i64 z0,.int .i64 z1,.int .i64 z2] 118)).alloc (.cells #[.int .i64 z1,.bool t,.int .i64 c] 223)).ownsRow w.heap.size 223 3 (.slice a1 D.length c1) D.length (z0n D):=z0d (z0d ho O) (by go_grown);have ai:Below wr.heap.size wr ((wr.alloc (.cells #[.int .i64 z0,.int .i64 z1,.int .i64 z2] 118)).alloc (.cells #[.int .i64 z1,.bool t,.int .i64 c] 223)):=by go_grown
    have ag:=Bz.below (w':=(wr.alloc (.cells #[.int .i64 z0,.int .i64 z1,.int .i64 z2] 118)).alloc (.cells #[.int .i64 z1,.bool t,.int .i64 c] 223)) (by go_grown);have au:=z8m ho (b:=wr.heap.size) (Or.inr (Nat.le_refl _))
    go_wp2_with (first|(at_lookup;refine A _ V _ _ _ _ _ rfl _ _ rfl rfl rfl ?_)|(at_builtin;refine wpList_append_own _ rfl _ _ 190 rfl w.heap.size 223 i0 (.agg #[.int .i64 0,.bool false,.int .i64 0]) 3 24 Tryz.underlying190 hi aw ax ay rfl (by decide) _ D.length (z0n D) rfl am ⟨wr.heap.size+1,0,none⟩ 1 1 [.int .i64 z1,.bool t,.int .i64 c] rfl rfl ?c1 ?c2 ?c3 ?c4 ?c5 ?_))
    all_goals try(case c1=>intro j u hj;match j,hj with|0,hj=>simp at hj;subst hj;simp[Addr.add]|1,hj=>simp at hj;subst hj;simp[Addr.add]|2,hj=>simp at hj;subst hj;simp[Addr.add])
    all_goals try(case c2=>first|rfl|exact⟨rfl,rfl,rfl⟩|(intro u hu;simp at hu;rcases hu with rfl|rfl|rfl<;>rfl))
    all_goals try(case c3=>unfold maxLen;omega)
    all_goals try(case c4=>omega)
    all_goals try(case c5=>first|omega|(simp;omega))
    intro v' w3 U E _;obtain⟨a2,c2,rfl⟩:=z0g U;have C:Below w.heap.size wr w3:=(ai.mono av).grown E (by simp;omega) (fun j hj=>(ho.lt j hj).1);have I:Only sb (sb+1) w w3:=⟨C.os.trans hO.os,C.tape.trans hO.tape,C.output.trans hO.output,Nat.le_trans hO.size C.size,fun j hj hc=>(C.block j hj).trans (hO.block j hj hc)⟩
    have T:=hS.under C ad;have ah:=ag.grown E au;obtain⟨q0,q1,q2⟩:=ah.cel3;clear E am ai ag V O Bz J L M hO ho hS ah C A
    go_wp2_with fail
    refine(y _ T).mono ?_;rintro e w4 ⟨rfl,aj,aa⟩;have RR:Hid (_∧_∧_):=⟨aj trivial,z1G U aa ad,I.trans aa⟩
    clear aj U aa I y q0 q1 q2 T
    go_wp2
    go_roundw
    case rel=>
     refine⟨k+1,nx,D++[⟨z1,t,c⟩],by omega,by go_num,RR.out.1,ab,by simp;omega,⟨HN.out.1,HN.out.2,N.out⟩,?_,RR.out.2.2⟩;rw[z2x];simpa using RR.out.2.1
    case measure=>simp[intOf];omega
  ·have aq:k=zs.length:=by omega
   subst aq;have e:unR xs zs=D:=by
    have:=HG.out.2.2;rw[List.drop_length]at this;simpa[unR]using this
   go_wp2
   go_ret;rw[e];exact⟨_,_,rfl,ho,hO⟩
theorem q3u{xs:List ItemD}{i s q:Int}{zs:List ActD}(h:exC xs i s q zs=0):itemsF xs=0∧txnF i s q zs=0∧(z0t xs zs).1=0:=by
 by_cases h1:itemsF xs=0
 ·by_cases h2:txnF i s q zs=0
  ·refine⟨h1,h2,?_⟩;simpa[exC,h1,h2]using h
  ·simp[exC,h1,h2]at h
 ·simp[exC,h1]at h
theorem q4n{xs:List ItemD}{i s q:Int}{zs:List ActD}(h:exC xs i s q zs≠0):exV xs i s q zs=0∧exR xs i s q zs=[]∧duU xs i s q zs=[]:=by
 simp[exV,exR,duU,h]
theorem z5m(a:Option Addr)(cap:Nat)(xs:List ItemD)(i s q:Int)(ta:Option Addr)(tc:Nat)(zs:List ActD)(w:World)(h:ItemRow w a xs)(ht:ActRow w ta zs)(hl:xs.length≤1048576)(N:zs.length≤1048576):
  Calls Tryz.prog 147 #[.slice a xs.length cap,.agg #[.int .i64 i,.int .i64 s,.int .i64 q,.slice ta zs.length tc]] w fun e w'=>∃b c b2 c2,e=.returned (.agg #[.int .i64 (exC xs i s q zs),.int .i64 (exV xs i s q zs),.slice b (duU xs i s q zs).length c,.slice b2 (exR xs i s q zs).length c2])∧
   OwnU w.heap.size w'.heap.size w' (.slice b (duU xs i s q zs).length c) (.slice b2 (exR xs i s q zs).length c2) (duU xs i s q zs) (exR xs i s q zs)∧Below w.heap.size w w':=by
 have hE:=fun w h ht=>z4S a cap xs i s q ta tc zs w h ht hl N
 have d:Below w.heap.size w ((w.alloc (.cells #[.int .i64 i,.int .i64 s,.int .i64 q,.slice ta zs.length tc] 82)).alloc (.cells #[.int .i64 0,.int .i64 0,.slice none 0 0,.slice none 0 0] 218)):=by go_grown
 have Bt:=(Blk.new w 82 #[.int .i64 i,.int .i64 s,.int .i64 q,.slice ta zs.length tc]).below (w':=(w.alloc (.cells #[.int .i64 i,.int .i64 s,.int .i64 q,.slice ta zs.length tc] 82)).alloc (.cells #[.int .i64 0,.int .i64 0,.slice none 0 0,.slice none 0 0] 218)) (by go_grown);have Br:=Blk.new (w.alloc (.cells #[.int .i64 i,.int .i64 s,.int .i64 q,.slice ta zs.length tc] 82)) 218 #[.int .i64 0,.int .i64 0,.slice none 0 0,.slice none 0 0];rw[World.size_alloc]at Br;by_cases h0:exC xs i s q zs=0
 case neg=>
  obtain⟨e1,e2,e3⟩:=q4n h0;have I:(exC xs i s q zs !=0)=true:=by simpa using h0
  rw[e1,e2,e3];rw[e1,e2]at hE;clear e1 e2 e3 h0;generalize exC xs i s q zs=r at hE I;go_enter Tryz.func147,Tryz.ntmps147;obtain⟨p0,p1,p2,p3⟩:=Bt.cel4
  go_wp2_with fail
  clear p0 p1 p2 p3;have C:=Br.lt;have x:=d.size;generalize (w.alloc (.cells #[.int .i64 i,.int .i64 s,.int .i64 q,.slice ta zs.length tc] 82)).alloc (.cells #[.int .i64 0,.int .i64 0,.slice none 0 0,.slice none 0 0] 218)=W0 at d Bt Br C x;refine(hE _ (h.below d) (ht.below d)).mono ?_;rintro e w1 ⟨ib,ic,rfl,o1,hb⟩;replace Bt:=Bt.below hb;replace Br:=Br.below hb;replace d:=d.trans (hb.mono d.size);have O:=hb.size;clear hb;have hb:Below w1.heap.size w1 (w1.alloc (.cells #[.int .i64 r,.int .i64 0,.slice ib 0 ic] 215)):=by go_grown
  replace Br:=Br.below hb;replace d:=d.trans (hb.mono d.size);obtain⟨p0,p1,p2,p3⟩:=Br.cel4;obtain⟨f0,f1,f2,f3⟩:=Br.frz4;clear hb
  go_wp2
  refine bodyPost_ret (v:=.agg #[.int .i64 r,.int .i64 0,.slice none 0 0,.slice none 0 0]) (by simp[results,Tryz.results147,go_sem,p0,p1,p2,p3]) rfl ⟨_,_,_,_,rfl,⟨OwnS.of (World.ownsRow_nil _ _ _ _),OwnS.of (World.ownsRow_nil _ _ _ _),Or.inl rfl⟩,?_⟩;repeat' (refine Below.setCell ?_ (by dsimp only;omega) _)
  exact d
 case pos=>
  obtain⟨z1,z2,z3⟩:=q3u h0;obtain⟨h8,g⟩:=z29 z1;obtain⟨⟨ad,Y⟩,z⟩:=z0S z2;have W:=fun w h=>z4P a cap xs w h h8 g
  have D:duU xs i s q zs=unR xs zs:=by simp[duU,h0]
  have X:∃b y,ta=some ⟨b,y,none⟩∧b<w.heap.size:=by
   obtain⟨b,y,e,E,_⟩:=ht.at 0 (by omega);exact⟨b,y,e,E⟩
  have L:=fun sb w hS ht A=>z8e sb xs ta tc zs w hS h8 g ht A Y z z3
  rw[D,h0];rw[h0]at hE;clear z z1 z2 z3 D h0 g;generalize exV xs i s q zs=V at hE⊢;generalize exR xs i s q zs=R at hE⊢;generalize unR xs zs=U at L⊢;go_enter Tryz.func147,Tryz.ntmps147;obtain⟨p0,p1,p2,p3⟩:=Bt.cel4
  go_wp2_with fail
  clear p0 p1 p2 p3;have C:=Br.lt;have x:=d.size;generalize (w.alloc (.cells #[.int .i64 i,.int .i64 s,.int .i64 q,.slice ta zs.length tc] 82)).alloc (.cells #[.int .i64 0,.int .i64 0,.slice none 0 0,.slice none 0 0] 218)=W0 at d Bt Br C x;refine(hE _ (h.below d) (ht.below d)).mono ?_;rintro e w1 ⟨ib,ic,rfl,o1,hb⟩;replace Bt:=Bt.below hb;replace Br:=Br.below hb;replace d:=d.trans (hb.mono d.size);have O:=hb.size;clear hb;have hb:Below w1.heap.size w1 (w1.alloc (.cells #[.int .i64 0,.int .i64 V,.slice ib R.length ic] 215)):=by go_grown
  have Bd:=Blk.new w1 215 #[.int .i64 0,.int .i64 V,.slice ib R.length ic];replace Br:=Br.below hb;replace Bt:=Bt.below hb;replace o1:=z0d o1 hb;replace d:=d.trans (hb.mono d.size);have T:=hb.size;clear hb
  go_wp2_with fail
  generalize w1.alloc (.cells #[.int .i64 0,.int .i64 V,.slice ib R.length ic] 215)=W2 at d Bt Br Bd o1 T;have ab:=d.size;have hW:Below W2.heap.size W2 W2.drew:=(Below.refl _ _).drew;have I:Nonempty (Lat W2):=⟨⟨W2,Below.refl _ _⟩⟩
  have k1:=Bd.lat 1 _ rfl;have k2:=Bd.lat 2 _ rfl;have k3:=Bt.lat 3 _ rfl;refine z6Y (S:=fun w'=>∃u:Lat W2,w'=u.val) (R:=fun _ _=>False) 10 (by kernel_rfl) (fun _ _ _ _ h=>h.elim) ?_;refine sgX [(0,3),(4,2),(7,2)] 4 (by kernel_rfl) ⟨⟨_,hW⟩,rfl⟩ ?_;simp only[pkE];repeat go_big_quiet_step (fail)
  refine wpQuiet_nil ?_;refine clX 3 (some 18) 181 #[.slice a xs.length cap] 3 (by kernel_rfl) rfl ?_;refine(W _ (h.below (d.trans (hW.mono d.size)))).mono ?_;rintro e w3 ⟨rfl,hS,hb⟩;have M:=hW.size;replace hW:=hW.trans (hb.mono hW.size);have J:=hb.size;clear hb;refine Or.inl ⟨_,rfl,⟨⟨_,hW⟩,rfl⟩,?_⟩;simp only[Act.put,pgE,pjE];generalize W2.drew.heap.size=sb at hS M J⊢;refine clX 6 (some 21) 182 #[.map (some sb),.slice ta zs.length tc] 2 (by kernel_rfl) rfl ?_;refine(L _ _ hS (ht.below (d.trans (hW.mono d.size))) (fun b y e=>?_)).mono ?_
  ·obtain⟨b',Z,e',E⟩:=X;rw[e]at e';simp only[Option.some.injEq,Addr.mk.injEq,and_true]at e';omega
  rintro e w4 ⟨ub,uc,rfl,o4,hO⟩;replace hW:=z3g hW hO M (by omega);clear hO hS;refine Or.inl ⟨_,rfl,⟨⟨_,hW⟩,rfl⟩,?_⟩;simp only[Act.put,pgE,pjE];refine onX 9 1 rfl (by kernel_rfl) ?_
  go_wp2
  refine ThenX.to ⟨Or.inr ⟨⟨_,hW⟩,rfl⟩,?_⟩;refine onX 10 0 rfl (by kernel_rfl) ?_;have aa:=Br.lt;have A:=z7D o1 o4 (by omega);replace Br:=Br.below hW;replace o1:=z0d o1 hW;replace d:=d.trans (hW.mono d.size);obtain⟨p0,p1,p2,p3⟩:=Br.cel4;obtain⟨f0,f1,f2,f3⟩:=Br.frz4
  go_wp2
  refine ThenX.to ⟨Or.inl (by kernel_rfl),?_⟩;refine q33 (by kernel_rfl) ?_
  go_wp2
  have n1:∀k,(Value.slice ub U.length uc).ownBlock=some k→k≠w.heap.size+1:=fun k hk=>by have:=(o4.lt k hk).1;omega
  have n2:∀k,(Value.slice ib R.length ic).ownBlock=some k→k≠w.heap.size+1:=fun k hk=>by have:=(o1.lt k hk).1;omega
  refine bodyPost_ret (v:=.agg #[.int .i64 0,.int .i64 V,.slice ub U.length uc,.slice ib R.length ic]) (by simp[results,Tryz.results147,go_sem,p0,p1,p2,p3]) rfl ⟨_,_,_,_,rfl,⟨OwnS.of (z0p (z0i (z0i (z0i (z0i o4 n1) n1) n1) n1) (by omega)),OwnS.of (z0p (z0i (z0i (z0i (z0i o1 n2) n2) n2) n2) (by omega)),A⟩,?_⟩;repeat' (refine Below.setCell ?_ (by dsimp only;omega) _)
  exact d
end
section
open Go.Maps
def z0G(xs:List ItemD)(zs:List ActD):List UndoD:=if(z0t xs zs).1=0 then unR xs zs else []
theorem z4W{w w':World}{a:Option Addr}{cs:List Value}(h:Lies w a cs)(hs:w.heap.size≤w'.heap.size)(hb:∀x off,a=some ⟨x,off,none⟩→x<w.heap.size→w'.heap[x]?=w.heap[x]?):Lies w' a cs:=by
 rcases h with h|⟨b,off,ha,hlt,hc⟩
 ·exact Or.inl h
 ·refine Or.inr ⟨b,off,ha,by omega,?_⟩;intro i x hx;have h1:=hc i x hx;have e:=hb b off ha hlt;simp only[World.cell?]at h1⊢;rw[e];exact h1
theorem ItB.below{w w':World}{a:Option Addr}(h:ItB w a)(hb:Below w.heap.size w w'):ItB w' a:=by
 intro x off e;obtain⟨cs,hc⟩:=h x off e;exact⟨cs,(hb.block x (Array.getElem?_eq_some_iff.1 hc).1).trans hc⟩
theorem q19(a:Option Addr)(cap:Nat)(xs:List ItemD)(tb ag:Nat)(i s q:Int)(ta:Option Addr)(tc:Nat)(zs:List ActD)(w:World)(h:ItemRow w a xs)(hN:z7l a xs.length cap)(hB:Box4 w tb ag (.int .i64 i) (.int .i64 s) (.int .i64 q) (.slice ta zs.length tc))(ht:ActRow w ta zs)(h8:xs.length≤8)(g:Good xs)(h2:txnF i s q zs=0):
  Calls Tryz.prog 135 #[.slice a xs.length cap,.pointer (some ⟨tb,ag,none⟩)] w fun e w'=>∃b c b2 c2,e=.returned (.agg #[.int .i64 (z0t xs zs).1,.int .i64 (runV xs zs),.slice b (z0G xs zs).length c,.slice b2 (runR xs zs).length c2])∧
   OwnU w.heap.size w'.heap.size w' (.slice b (z0G xs zs).length c) (.slice b2 (runR xs zs).length c2) (z0G xs zs) (runR xs zs)∧Below w.heap.size w w':=by
 obtain⟨⟨bq,bP⟩,aD⟩:=z0S h2;have HA:Hid (∀a∈zs,actF a=0):=aD;clear h2 aD;have B0:=Blk.new w 218 #[.int .i64 0,.int .i64 0,.slice none 0 0,.slice none 0 0];have aL:Below w.heap.size w ((w.alloc (.cells #[.int .i64 0,.int .i64 0,.slice none 0 0,.slice none 0 0] 218)).alloc (.cells #[] 187)):=by go_grown
 have aT:=B0.below (w':=(w.alloc (.cells #[.int .i64 0,.int .i64 0,.slice none 0 0,.slice none 0 0] 218)).alloc (.cells #[] 187)) (by go_grown);have aR:=World.ownsRow_lit (size:=2) (e:=187) (w.alloc (.cells #[.int .i64 0,.int .i64 0,.slice none 0 0,.slice none 0 0] 218)) #[] 0 (Nat.le_refl _) (by decide) rfl;rw[World.size_alloc]at aR;have bg:∀ (ops:Array Oper) (rest:List Oper) (o:Oper) (L:Act) (Q:Exit→Act→World→Prop) (ap:o.guard=none) (sx x:Operand) (ho:o.op=.call {callee:=.builtin .append,args:=#[sx,x],argTypes:=#[70,70]}) (hs:L.eval sx=.slice (some ⟨w.heap.size+1,0,none⟩) 0 0) (hx:L.eval x=.slice a xs.length cap)
   (hh:∀a' c' w',w'.ownsRow (w.heap.size+1) 187 2 (.slice a' xs.length c') xs.length (z0h xs)→Below (w.heap.size+1) ((w.alloc (.cells #[.int .i64 0,.int .i64 0,.slice none 0 0,.slice none 0 0] 218)).alloc (.cells #[] 187)) w'→wpList Tryz.prog ops Q rest (L.put o.dst (.slice a' xs.length c')) w'),wpList Tryz.prog ops Q (o::rest) L ((w.alloc (.cells #[.int .i64 0,.int .i64 0,.slice none 0 0,.slice none 0 0] 218)).alloc (.cells #[] 187)):=
  fun ops rest o L Q ap sx x ho hs hx hh=>z0A _ ap sx x ho (w.heap.size+1) (w.heap.size+1) hs aR a xs cap hx (h.below aL) hN (by omega) (by simp) hh
 go_enter Tryz.func135,Tryz.ntmps135
 go_wp2_with (at_builtin;refine bg _ _ _ _ _ rfl _ _ rfl rfl rfl ?_)
 intro a1 c1 w2 E aN;have aK:Below w.heap.size w w2:=aL.trans (aN.mono (by omega));replace B0:Blk w2 _ _ _:=(aN.block _ (by omega)).trans aT;clear bg aR aT aL aN;have bl:w.heap.size<w2.heap.size:=B0.lt;have aY:=z2o E;have ao:Below w2.heap.size w2 (w2.alloc (.cells #[.int .i64 0,.int .i64 0,.slice none 0 0,.slice none 0 0] 218)):=by go_grown
 have a8:ItemRow (w2.alloc (.cells #[.int .i64 0,.int .i64 0,.slice none 0 0,.slice none 0 0] 218)) a1 xs:=Lies.below (Lies.own E) ao;have aV:=(z6o E).below ao;have Bo:=Blk.new w2 218 #[.int .i64 0,.int .i64 0,.slice none 0 0,.slice none 0 0];replace B0:=B0.below ao;have ae:Below w.heap.size w (w2.alloc (.cells #[.int .i64 0,.int .i64 0,.slice none 0 0,.slice none 0 0] 218)):=aK.trans (ao.mono aK.size);obtain⟨b0,b1,b2,b3⟩:=hB;have bw:tb<w.heap.size:=World.block_lt_of_cell? w ⟨tb,ag,none⟩ b0;have c3:(w2.alloc (.cells #[.int .i64 0,.int .i64 0,.slice none 0 0,.slice none 0 0] 218)).cell? ⟨tb,ag+3,none⟩=_:=(ae.cell (p:=⟨tb,ag+3,none⟩) bw).trans b3;have bp:ActRow (w2.alloc (.cells #[.int .i64 0,.int .i64 0,.slice none 0 0,.slice none 0 0] 218)) ta zs:=ht.below ae;have aH:∀k,k<zs.length→∃b y,ta=some ⟨b,y,none⟩∧b<w.heap.size:=fun k hk=>by
  obtain⟨b,y,e,aO,_⟩:=ht.at k hk;exact⟨b,y,e,aO⟩
 have bL:(w2.alloc (.cells #[.int .i64 0,.int .i64 0,.slice none 0 0,.slice none 0 0] 218)).heap.size=w2.heap.size+1:=by simp
 clear h hN E b0 b1 b2 b3 ht ao aK
 go_wp2
 generalize w2.alloc (.cells #[.int .i64 0,.int .i64 0,.slice none 0 0,.slice none 0 0] 218)=w3 at*;generalize w2.heap.size=bo at*;go_loopw [5,7] (fun v j wr=>∃ (k:Nat) (d:List ItemD) (b:Option Addr) (c:Nat) (D:List UndoD) (ua:Option Addr) (uc:Nat),k≤zs.length∧j=.int .i64 k∧v=.slice b d.length c∧ItemRow wr b d∧z7l b d.length c∧ItB wr b∧d.length≤8∧D.length≤k∧Hid (Good d∧z0t d (zs.drop k)=z0t xs zs∧unR xs zs=D ++ unR d (zs.drop k)) ∧
  Blk wr bo 218 #[.int .i64 0,.int .i64 0,.slice ua D.length uc,.slice none 0 0]∧wr.ownsRow (bo + 1) 223 3 (.slice ua D.length uc) D.length (z0n D)∧Below bo w3 wr) (fun _ j _=>zs.length - (intOf j).toNat)
 case atStart=>exact⟨0,xs,a1,c1,[],none,0,Nat.zero_le _,rfl,rfl,a8,aY,aV,h8,Nat.zero_le _,⟨g,by simp,by simp⟩,Bo,World.ownsRow_nil _ _ _ _,Below.refl _ _⟩
 case round=>
  clear a8 aY aV Bo;obtain⟨k,d,nb,nc,D,ua,uc,hk,rfl,rfl,hR,a6,hI,bf,hD,HG,Bo,ho,hb⟩:=hrel;have bH:=Bo.lt;have d3:wr.cell? ⟨tb,ag+3,none⟩=_:=(hb.cell (p:=⟨tb,ag+3,none⟩) (by dsimp only;omega)).trans c3;by_cases az:k<zs.length
  ·obtain⟨b,y,rfl,aO⟩:=aH k az;obtain⟨b',bs,e,_,I,A,O⟩:=bp.at k az;simp only[Option.some.injEq,Addr.mk.injEq,and_true]at e;obtain⟨rfl,rfl⟩:=e;replace I:wr.cell? ⟨b,y+k*3,none⟩=_:=(hb.cell (p:=⟨b,y+k*3,none⟩) (by dsimp only;omega)).trans I;replace A:wr.cell? ⟨b,y+k*3+1,none⟩=_:=(hb.cell (p:=⟨b,y+k*3+1,none⟩) (by dsimp only;omega)).trans A;replace O:wr.cell? ⟨b,y+k*3+2,none⟩=_:=(hb.cell (p:=⟨b,y+k*3+2,none⟩) (by dsimp only;omega)).trans O;have ad:=HA.out (zs.getD k z0e) (by simp[List.getD,az]);have J:=fun w hR c0 c1 c2=>z7m nb nc d b (y+k*3) (zs.getD k z0e).kind (zs.getD k z0e).key (zs.getD k z0e).val w hR a6 bf HG.out.1 ad c0 c1 c2
   change∀w hR c0 c1 c2,Calls _ _ _ _ (z1k w nb d (zs.getD k z0e))at J;unfold z1k at J;have HD:Hid (z0t d (zs.getD k z0e::zs.drop (k+1))=z0t xs zs∧unR xs zs=D++unR d (zs.getD k z0e::zs.drop (k+1))):=by
    have:=HG.out.2;rw[z3b az]at this;exact this
   have X:Hid (unA d (zs.getD k z0e)=⟨(zs.getD k z0e).key,hasI d (zs.getD k z0e).key,valI d (zs.getD k z0e).key⟩):=rfl;have U:=fun w h=>z1Q nb nc d (zs.getD k z0e).key w h (by omega)
   have M:=fun w h=>z6n nb nc d (zs.getD k z0e).key w h (by omega)
   generalize zs.getD k z0e=z at I A O J HD ad X U M;obtain⟨z0,z1,z2⟩:=z;dsimp only at I A O J X U M;generalize valI d z1=c at U X M;generalize hasI d z1=t at X M;replace ad:Hid _:=ad
   go_wp2_with fail
   refine z1o [some 31,some 32,some 33,some 34,some 35,some 36,some 37,some 38,some 39,some 40,some 41,some 42,some 43,some 44,some 45,some 46,some 47,some 48,some 9] (fun vs w'=>∃ (r:Int) (bx:Nat),vs=[.pointer (some ⟨b,y+k*3,none⟩),.pointer (some ⟨b,y+k*3,none⟩),.pointer (some ⟨b,y+k*3+1,none⟩),.int .i64 z1,.slice nb d.length nc,.pointer (some ⟨b,y+k*3,none⟩),.pointer (some ⟨b,y+k*3,none⟩),.pointer (some ⟨b,y+k*3+1,none⟩),.int .i64 z1,.int .i64 r,.bool t,.slice nb d.length nc,.pointer (some ⟨b,y+k*3,none⟩),.pointer (some ⟨b,y+k*3,none⟩),.pointer (some ⟨b,y+k*3+1,none⟩),.int .i64 z1,.int .i64 c,.agg #[.int .i64 z1,.bool t,.int .i64 c],.pointer (some ⟨bx,0,none⟩)]∧wr.heap.size≤bx∧Blk w' bx 223 #[.int .i64 z1,.bool t,.int .i64 c]∧Below wr.heap.size wr w') ?_ ?_
   ·have bd:∀ (w:World) (h:ItemRow w nb d),Calls Tryz.prog 168 #[.slice nb d.length nc,.int .i64 z1] w fun e w' => ∃ r:Int,e=.returned (.int .i64 r)∧decide (0≤r)=t∧w' = w:=fun w h=>(M w h).mono (by
     rintro e w' ⟨r,rfl,⟨rfl,hq,_⟩|⟨j,rfl,_,hq,_⟩,rfl⟩
     ·exact⟨_,rfl,by rw[hq];rfl,rfl⟩
     ·exact ⟨_,rfl,by rw [hq];simp,rfl⟩)
    clear M J HD X ad HG;have hW:Below wr.heap.size wr wr.drew:=(Below.refl _ _).drew;have aa:Nonempty (Lat wr):=⟨⟨wr,Below.refl _ _⟩⟩
    have bB:=z0a A;refine z0b (S:=fun w'=>∃u:Lat wr,w'=u.val) (by kernel_rfl) ?_;refine sgr [(0,9),(11,5)] 6 (by kernel_rfl) ⟨⟨_,hW⟩,rfl⟩ ?_;simp only[pkE];repeat go_big_quiet_step (fail)
    refine wpQuiet_nil ?_;clear bB;have C:Hid (wr.drew.heap.size=wr.heap.size):=(rfl:wr.drew.heap.size=wr.heap.size)
    generalize wr.drew=wd at hW C⊢;refine twa 9 18 5 (by kernel_rfl) ?_ ?_
    ·skip;refine opc 9 (some 40) 168 #[.slice nb d.length nc,.int .i64 z1] (by kernel_rfl) ?_;refine(bd _ (hR.below hW)).mono ?_;rintro e w' ⟨r,rfl,rfl,hw⟩;replace hw:=hw.symm;subst hw;refine⟨_,rfl,⟨⟨_,hW⟩,rfl⟩,?_⟩;try simp only[Act.put,pgE,pjE]
     refine sgr [(10,1)] 4 (by kernel_rfl) ⟨⟨_,hW⟩,rfl⟩ ?_;simp only[pkE];repeat go_big_quiet_step (fail)
     refine wpQuiet_nil ?_;refine twa 16 18 3 (by kernel_rfl) ?_ ?_
     ·skip;refine opc 16 (some 47) 167 #[.slice nb d.length nc,.int .i64 z1] (by kernel_rfl) ?_;refine(U _ (hR.below hW)).mono ?_;rintro e w' ⟨rfl,hw⟩;replace hw:=hw.symm;subst hw;refine⟨_,rfl,⟨⟨_,hW⟩,rfl⟩,?_⟩;simp only[Act.put,pgE,pjE];refine sgr [(17,1)] 2 (by kernel_rfl) ⟨⟨_,hW⟩,rfl⟩ ?_;simp only[pkE];repeat go_big_quiet_step (fail)
      refine wpQuiet_nil ?_;refine ona 18 1 rfl (by kernel_rfl) ?_;have af:Below wd.heap.size wd (wd.alloc (.cells #[.int .i64 0,.bool false,.int .i64 0] 223)):=by go_grown
      have Bz:=Blk.new wd 223 #[.int .i64 0,.bool false,.int .i64 0];replace hW:=hW.trans (af.mono hW.size);clear af
      go_wp2
      refine ThenGo.to ⟨⟨⟨_,hW⟩,rfl⟩,?_⟩;generalize wd.alloc (.cells #[.int .i64 0,.bool false,.int .i64 0] 223)=Y at hW Bz⊢;refine ona 19 0 rfl (by kernel_rfl) ?_;obtain⟨p0,p1,p2⟩:=Bz.cel3;obtain⟨f0,f1,f2⟩:=Bz.frz3;have ab:=((hW.setCell (p:=⟨wd.heap.size,0,none⟩) (by have:=C.out;dsimp only;omega) (.int .i64 z1)).setCell (p:=⟨wd.heap.size,1,none⟩) (by have:=C.out;dsimp only;omega) (.bool (decide ((0:Int)≤r)))).setCell (p:=⟨wd.heap.size,2,none⟩) (by have:=C.out;dsimp only;omega) (.int .i64 c);have am:=((Bz.set 0 (.int .i64 z1)).set 1 (.bool (decide ((0:Int)≤r)))).set 2 (.int .i64 c);clear aa
      go_wp2
      refine ThenGo.to ⟨⟨⟨_,ab⟩,rfl⟩,?_⟩;refine z0f (by kernel_rfl) ?_;exact⟨rfl,_,⟨r,_,rfl,(by have:=C.out;omega),am,ab⟩,by kernel_rfl⟩
     ·skip;refine z2u 18 _ rfl ?_;have af:Below wd.heap.size wd (wd.alloc (.cells #[.int .i64 0,.bool false,.int .i64 0] 223)):=by go_grown
      have Bz:=Blk.new wd 223 #[.int .i64 0,.bool false,.int .i64 0];replace hW:=hW.trans (af.mono hW.size);clear af
      go_wp2
      refine ThenGo.to ⟨⟨⟨_,hW⟩,rfl⟩,?_⟩;generalize wd.alloc (.cells #[.int .i64 0,.bool false,.int .i64 0] 223)=Y at hW Bz⊢;refine cla 16 (some 47) 167 #[.slice nb d.length nc,.int .i64 z1] 2 (by kernel_rfl) ?_;refine(U _ (hR.below hW)).mono ?_;rintro e w' ⟨rfl,hw⟩;replace hw:=hw.symm;subst hw;refine⟨_,rfl,⟨⟨_,hW⟩,rfl⟩,?_⟩;simp only[Act.put,pgE,pjE];refine sgr [(17,1)] 1 (by kernel_rfl) ⟨⟨_,hW⟩,rfl⟩ ?_;simp only[pkE];repeat go_big_quiet_step (fail)
      refine wpQuiet_nil ?_;refine ona 19 0 rfl (by kernel_rfl) ?_;obtain⟨p0,p1,p2⟩:=Bz.cel3;obtain⟨f0,f1,f2⟩:=Bz.frz3;have ab:=((hW.setCell (p:=⟨wd.heap.size,0,none⟩) (by have:=C.out;dsimp only;omega) (.int .i64 z1)).setCell (p:=⟨wd.heap.size,1,none⟩) (by have:=C.out;dsimp only;omega) (.bool (decide ((0:Int)≤r)))).setCell (p:=⟨wd.heap.size,2,none⟩) (by have:=C.out;dsimp only;omega) (.int .i64 c);have am:=((Bz.set 0 (.int .i64 z1)).set 1 (.bool (decide ((0:Int)≤r)))).set 2 (.int .i64 c);clear aa
      go_wp2
      refine ThenGo.to ⟨⟨⟨_,ab⟩,rfl⟩,?_⟩;refine z0f (by kernel_rfl) ?_;exact⟨rfl,_,⟨r,_,rfl,(by have:=C.out;omega),am,ab⟩,by kernel_rfl⟩
    ·skip;refine z2u 18 _ rfl ?_;have af:Below wd.heap.size wd (wd.alloc (.cells #[.int .i64 0,.bool false,.int .i64 0] 223)):=by go_grown
     have Bz:=Blk.new wd 223 #[.int .i64 0,.bool false,.int .i64 0];replace hW:=hW.trans (af.mono hW.size);clear af
     go_wp2
     refine ThenGo.to ⟨⟨⟨_,hW⟩,rfl⟩,?_⟩;generalize wd.alloc (.cells #[.int .i64 0,.bool false,.int .i64 0] 223)=Y at hW Bz⊢;refine cla 9 (some 40) 168 #[.slice nb d.length nc,.int .i64 z1] 4 (by kernel_rfl) ?_;refine(bd _ (hR.below hW)).mono ?_;rintro e w' ⟨r,rfl,rfl,hw⟩;replace hw:=hw.symm;subst hw;refine⟨_,rfl,⟨⟨_,hW⟩,rfl⟩,?_⟩;try simp only[Act.put,pgE,pjE]
     refine sgr [(10,1)] 3 (by kernel_rfl) ⟨⟨_,hW⟩,rfl⟩ ?_;simp only[pkE];repeat go_big_quiet_step (fail)
     refine wpQuiet_nil ?_;refine cla 16 (some 47) 167 #[.slice nb d.length nc,.int .i64 z1] 2 (by kernel_rfl) ?_;refine(U _ (hR.below hW)).mono ?_;rintro e w' ⟨rfl,hw⟩;replace hw:=hw.symm;subst hw;refine⟨_,rfl,⟨⟨_,hW⟩,rfl⟩,?_⟩;simp only[Act.put,pgE,pjE];refine sgr [(17,1)] 1 (by kernel_rfl) ⟨⟨_,hW⟩,rfl⟩ ?_;simp only[pkE];repeat go_big_quiet_step (fail)
     refine wpQuiet_nil ?_;refine ona 19 0 rfl (by kernel_rfl) ?_;obtain⟨p0,p1,p2⟩:=Bz.cel3;obtain⟨f0,f1,f2⟩:=Bz.frz3;have ab:=((hW.setCell (p:=⟨wd.heap.size,0,none⟩) (by have:=C.out;dsimp only;omega) (.int .i64 z1)).setCell (p:=⟨wd.heap.size,1,none⟩) (by have:=C.out;dsimp only;omega) (.bool (decide ((0:Int)≤r)))).setCell (p:=⟨wd.heap.size,2,none⟩) (by have:=C.out;dsimp only;omega) (.int .i64 c);have am:=((Bz.set 0 (.int .i64 z1)).set 1 (.bool (decide ((0:Int)≤r)))).set 2 (.int .i64 c);clear aa
     go_wp2
     refine ThenGo.to ⟨⟨⟨_,ab⟩,rfl⟩,?_⟩;refine z0f (by kernel_rfl) ?_;exact⟨rfl,_,⟨r,_,rfl,(by have:=C.out;omega),am,ab⟩,by kernel_rfl⟩
   rintro vs w6 ⟨r,bx,rfl,bJ,Bu,hW⟩;simp only[z1V,Act.put,pjE];clear M U;have aS:b<wr.heap.size:=by omega
   replace I:=(hW.cell (p:=⟨b,y+k*3,none⟩) aS).trans I;replace A:=(hW.cell (p:=⟨b,y+k*3+1,none⟩) aS).trans A;replace O:=(hW.cell (p:=⟨b,y+k*3+2,none⟩) aS).trans O;by_cases hF:actC d ⟨z0,z1,z2⟩=0
   ·obtain⟨aQ,bj⟩:=z2n bf HG.out.1 ad.out hF;have W:Hid (Good (actN d ⟨z0,z1,z2⟩)∧z0t (actN d ⟨z0,z1,z2⟩) (zs.drop (k + 1))=z0t xs zs∧unR xs zs=D ++ ((if z0=4 then [] else [unA d ⟨z0,z1,z2⟩]) ++ unR (actN d ⟨z0,z1,z2⟩) (zs.drop (k + 1)))):=⟨bj,by
     have:=HD.out.1;rw[z1r,if_pos hF]at this;exact this,by
     have:=HD.out.2;rw[z8E]at this;exact this⟩
    rw[hF]at J;clear HD bj HG ad hF;generalize actN d ⟨z0,z1,z2⟩=nx at J W aQ;generalize unA d ⟨z0,z1,z2⟩=uu at W X;have bn:=hW.size
    go_wp2_with fail
    refine(J _ (hR.below hW) I A O).mono ?_;rintro e w7 ⟨b5,n5,c5,rfl,aZ,N⟩;obtain⟨rfl,ax,ah,aW⟩:=aZ (by first|trivial|rfl);have bu:b<w6.heap.size:=by omega
    replace I:=(N.cell (p:=⟨b,y+k*3,none⟩) bu).trans I;replace hI:=(hI.below hW).below N;have aw:ItB w7 b5:=by
     rcases aW with e|h
     ·rw[e];exact hI
     ·exact h
    replace Bo:=(Bo.below hW).below N;have bI:=Bu.lt;replace Bu:=Bu.below N;replace ho:=z0d (z0d ho hW) N;replace hb:=(hb.trans (hW.mono (by omega))).trans (N.mono (by omega));have bG:=N.size;clear aW aZ J hW N hR d3 hI A O;by_cases h4:z0=4
    ·subst h4;have bv:((4:Int) !=4)=false:=by decide
     have aI:Hid (Good nx∧z0t nx (zs.drop (k+1))=z0t xs zs∧unR xs zs=D++unR nx (zs.drop (k+1))):=⟨W.out.1,W.out.2.1,by simpa using W.out.2.2⟩
     have RR:Hid (_∧_∧_∧_∧_∧_):=⟨ax,ah,aw,Bo,ho,hb⟩
     clear ax ah aw Bo ho hb Bu
     go_wp2
     go_roundw
     case rel=>exact⟨k+1,nx,b5,c5,D,ua,uc,by omega,by go_num,rfl,RR.out.1,RR.out.2.1,RR.out.2.2.1,aQ,by omega,aI,RR.out.2.2.2.1,RR.out.2.2.2.2.1,RR.out.2.2.2.2.2⟩
     case measure=>simp[intOf];omega
    ·have bv:(z0 !=4)=true:=by simpa using h4
     have aI:Hid (Good nx∧z0t nx (zs.drop (k + 1))=z0t xs zs∧unR xs zs=(D ++ [⟨z1,t,c⟩]) ++ unR nx (zs.drop (k + 1))):=⟨W.out.1,W.out.2.1,by
      have:=W.out.2.2;rw[if_neg h4,X.out]at this;simpa using this⟩
     clear W X h4;obtain⟨i0,hi,bz,bq,bA⟩:=info_parts z34;have aj:Below w7.heap.size w7 (w7.alloc (.cells #[.int .i64 z1,.bool t,.int .i64 c] 223)):=by go_grown
     have aq:=z0d ho aj;have aU:=Bo.below aj;have aC:=ax.below aj;have an:=aw.below aj;have bO:(w7.alloc (.cells #[.int .i64 z1,.bool t,.int .i64 c] 223)).heap.size=w7.heap.size+1:=by simp
     have p2:=Bo.cell 2 _ rfl;obtain⟨q0,q1,q2⟩:=Bu.cel3
     go_wp2_with (at_builtin;refine wpList_append_own _ rfl _ _ 190 rfl (bo+1) 223 i0 (.agg #[.int .i64 0,.bool false,.int .i64 0]) 3 24 Tryz.underlying190 hi bz bq bA rfl (by decide) _ D.length (z0n D) rfl aq ⟨w7.heap.size,0,none⟩ 1 1 [.int .i64 z1,.bool t,.int .i64 c] rfl rfl ?c1 ?c2 ?c3 ?c4 ?c5 ?_)
     all_goals try(case c1=>intro j u hj;match j,hj with|0,hj=>simp at hj;subst hj;simp[Addr.add]|1,hj=>simp at hj;subst hj;simp[Addr.add]|2,hj=>simp at hj;subst hj;simp[Addr.add])
     all_goals try(case c2=>first|rfl|exact⟨rfl,rfl,rfl⟩|(intro u hu;simp at hu;rcases hu with rfl|rfl|rfl<;>rfl))
     all_goals try(case c3=>unfold maxLen;omega)
     all_goals try(case c4=>omega)
     all_goals try(case c5=>first|omega|(simp;omega))
     intro v' w8 E T _;obtain⟨a2,c2,rfl⟩:=z0g E;clear p2 q0 q1 q2;have aG:=z8m aq (b:=bo) (Or.inl (by omega));have al:=aU.grown T aG;have bc:Below bo w7 w8:=(aj.mono (by omega)).grown T (by omega) (fun j hj=>by have:=(aq.lt j hj).1;omega);have aP:∀x y,b5=some ⟨x,y,none⟩→x<(w7.alloc (.cells #[.int .i64 z1,.bool t,.int .i64 c] 223)).heap.size→w8.heap[x]?=(w7.alloc (.cells #[.int .i64 z1,.bool t,.int .i64 c] 223)).heap[x]?:=by
      intro x y e hx;refine T.block x hx ?_;intro e2;obtain⟨cs,V⟩:=an x y e;rcases aq.2 with⟨hv,_⟩|⟨g',bC,bD,hv,_,hh,_⟩
      ·rw[hv]at e2;simp[Value.ownBlock]at e2
      ·rw[hv]at e2;simp only[Value.ownBlock,Option.some.injEq]at e2;subst e2;rw[V]at hh;simp at hh
     have ba:ItemRow w8 b5 nx:=z4W aC T.size aP;have aJ:ItB w8 b5:=by
      intro x y e;obtain⟨cs,V⟩:=an x y e;exact⟨cs,(aP x y e (Array.getElem?_eq_some_iff.1 V).1).trans V⟩
     have ak:∀x y,b5=some ⟨x,y,none⟩→x≠bo:=by
      intro x y e e2;obtain⟨cs,V⟩:=aJ x y e;subst e2;have:=al;unfold Blk at this;rw[V]at this;simp at this
     have bb:ItemRow (w8.setCell ⟨bo,2,none⟩ (.slice a2 (D.length+1) c2)) b5 nx:=z4W ba (by simp[World.setCell]) (fun x y e hx=>Below.heap_setCell _ _ _ _ (by have:=ak x y e;dsimp only;omega));have aX:ItB (w8.setCell ⟨bo,2,none⟩ (.slice a2 (D.length+1) c2)) b5:=by
      intro x y e;obtain⟨cs,V⟩:=aJ x y e;exact⟨cs,(Below.heap_setCell _ _ _ _ (by have:=ak x y e;dsimp only;omega)).trans V⟩
     have av:=al.set 2 (.slice a2 (D.length+1) c2);have ar:=ownsRow_setCell_below (a:=⟨bo,2,none⟩) E (by dsimp only;omega) (.slice a2 (D.length+1) c2);have be:=(hb.trans bc).setCell (p:=⟨bo,2,none⟩) (Nat.le_refl _) (.slice a2 (D.length+1) c2);have p2:=al.cell 2 _ rfl;have f2:=al.frozen 2;have RR:Hid (_∧_∧_∧_∧_∧_):=⟨bb,ah,aX,av,ar,be⟩
     clear bb ah aX av ar be ba aJ ax aw Bo ho hb Bu aU aq aC an bc aP ak T E al aj aG
     go_wp2
     go_roundw
     case rel=>
      refine⟨k+1,nx,b5,c5,D++[⟨z1,t,c⟩],a2,c2,by omega,by go_num,rfl,RR.out.1,RR.out.2.1,RR.out.2.2.1,aQ,by simp;omega,aI,?_,?_,RR.out.2.2.2.2.2⟩
      ·simpa using RR.out.2.2.2.1
      ·rw[z2x];simpa using RR.out.2.2.2.2.1
     case measure=>simp[intOf];omega
   ·have HE:Hid ((z0t xs zs).1=actC d ⟨z0,z1,z2⟩∧runR xs zs=[]∧runV xs zs=0∧z0G xs zs=[]):=by
     have hh:=HD.out.1;rw[z1r,if_neg hF]at hh;refine⟨by rw[←hh],?_,?_,?_⟩
     ·unfold runR;rw[←hh];exact if_neg hF
     ·unfold runV;rw[←hh];exact if_neg hF
     ·unfold z0G;rw[←hh];exact if_neg hF
    have aa:(actC d ⟨z0,z1,z2⟩ !=0)=true:=by simpa using hF
    clear HD HG ad hF X Bu;generalize actC d ⟨z0,z1,z2⟩=rc at J HE aa;have bF:=aa;clear aa
    go_wp2_with fail
    refine(J _ (hR.below hW) I A O).mono ?_;rintro e w7 ⟨b5,n5,c5,rfl,_,N⟩;have bn:=hW.size;have Z:=(hb.trans (hW.mono (by omega))).trans (N.mono (by omega));have ai:Blk w7 _ _ _:=(Z.block _ bl).trans B0;have ay:Below w.heap.size w w7:=ae.trans (Z.mono (by omega));obtain⟨p0,p1,p2,p3⟩:=ai.cel4;obtain⟨f0,f1,f2,f3⟩:=ai.frz4;clear J hb N d3 B0 ai hW Z hR Bo ho
    go_wp2
    refine bodyPost_ret (v:=.agg #[.int .i64 rc,.int .i64 0,.slice none 0 0,.slice none 0 0]) (by simp[results,Tryz.results135,go_sem,p0,p1,p2,p3]) rfl ?_;rw[HE.out.1,HE.out.2.1,HE.out.2.2.1,HE.out.2.2.2];refine⟨_,_,_,_,rfl,⟨OwnS.of (World.ownsRow_nil _ _ _ _),OwnS.of (World.ownsRow_nil _ _ _ _),Or.inl rfl⟩,?_⟩;repeat' (refine Below.setCell ?_ (by dsimp only;omega) _)
    exact ay
  ·have bi:k=zs.length:=by omega
   have HC:Hid (z0t xs zs=(0,d)∧unR xs zs=D):=by
    have:=HG.out.2;rw[bi,List.drop_length]at this;exact⟨this.1.symm,by simpa[unR]using this.2⟩
   subst bi;obtain⟨n,hn⟩:∃n,zs.length=n+1:=⟨zs.length-1,by omega⟩
   obtain⟨b,y,rfl,aO⟩:=aH n (by omega);obtain⟨b',bs,e,_,I,A,O⟩:=bp.at n (by omega);simp only[Option.some.injEq,Addr.mk.injEq,and_true]at e;obtain⟨rfl,rfl⟩:=e;replace A:wr.cell? ⟨b,y+n*3+1,none⟩=_:=(hb.cell (p:=⟨b,y+n*3+1,none⟩) (by dsimp only;omega)).trans A;have HL:Hid (z4R zs=(zs.getD n z0e).key):=by
    show _=_;unfold z4R;rw[hn,Nat.add_sub_cancel]
   generalize (zs.getD n z0e).key=kk at A HL;have U:=fun w h=>z1Q nb nc d kk w h (by omega)
   have HE:Hid ((z0t xs zs).1=0∧runR xs zs=d∧runV xs zs=valI d kk∧z0G xs zs=D):=by
    have hh:=HC.out.1;refine⟨by rw[hh],?_,?_,?_⟩
    ·unfold runR;rw[hh];exact if_pos rfl
    ·unfold runV;rw[hh,HL.out];exact if_pos rfl
    ·unfold z0G;rw[hh,HC.out.2];exact if_pos rfl
   generalize valI d kk=vv at U HE;have bm:(zs.length:Int)-1=(n:Int):=by omega
   have bK:n<zs.length:=by omega
   have hW:Below wr.heap.size wr wr.drew:=(Below.refl _ _).drew;have aa:Nonempty (Lat wr):=⟨⟨wr,Below.refl _ _⟩⟩
   have k0:=z0a A;have k1:=z0a d3;clear hn I O A HC HG HL c3
   go_wp2_with fail
   refine z6Y (S:=fun w'=>∃u:Lat wr,w'=u.val) (R:=fun _ _=>False) 16 (by kernel_rfl) (fun _ _ _ _ h=>h.elim) ?_;refine sgX [(0,9)] 8 (by kernel_rfl) ⟨⟨_,hW⟩,rfl⟩ ?_;simp only[pkE];repeat go_big_quiet_step (fail)
   refine wpQuiet_nil ?_;generalize wr.drew=wd at hW⊢;refine onX 9 7 rfl (by kernel_rfl) ?_
   go_wp2
   refine ThenX.to ⟨Or.inr ⟨⟨_,hW⟩,rfl⟩,?_⟩;refine sgX [(10,4)] 3 (by kernel_rfl) ⟨⟨_,hW⟩,rfl⟩ ?_;simp only[pkE];repeat go_big_quiet_step (fail)
   refine wpQuiet_nil ?_;clear k0 k1 bm;refine clX 14 (some 85) 167 #[.slice nb d.length nc,.int .i64 kk] 2 (by kernel_rfl) rfl ?_;refine(U _ (hR.below hW)).mono ?_;rintro e w' ⟨rfl,hw⟩;replace hw:=hw.symm;subst hw;refine Or.inl ⟨_,rfl,⟨⟨_,hW⟩,rfl⟩,?_⟩;simp only[Act.put,pgE,pjE];refine onX 15 1 rfl (by kernel_rfl) ?_
   go_wp2
   refine ThenX.to ⟨Or.inr ⟨⟨_,hW⟩,rfl⟩,?_⟩;refine onX 16 0 rfl (by kernel_rfl) ?_;replace Bo:=Bo.below hW;replace ho:=z0d ho hW;replace hR:=hR.below hW;replace hI:=hI.below hW;replace hb:=hb.trans (hW.mono (by omega));have p1:=Bo.cell 1 _ rfl;have f1:=Bo.frozen 1
   go_wp2
   refine ThenX.to ⟨Or.inl (by kernel_rfl),?_⟩;refine q33 (by kernel_rfl) ?_;clear p1 f1 hW aa U d3;have ak:∀x y,nb=some ⟨x,y,none⟩→x≠bo:=by
    intro x y e e2;obtain⟨cs,V⟩:=hI x y e;subst e2;have:=Bo;unfold Blk at this;rw[V]at this;simp at this
   replace hR:ItemRow (wd.setCell ⟨bo,1,none⟩ (.int .i64 vv)) nb d:=z4W hR (by simp[World.setCell]) (fun x y e hx=>Below.heap_setCell _ _ _ _ (by have:=ak x y e;dsimp only;omega));replace Bo:=Bo.set 1 (.int .i64 vv);replace ho:=ownsRow_setCell_below (a:=⟨bo,1,none⟩) ho (by dsimp only;omega) (.int .i64 vv);replace hb:=hb.setCell (p:=⟨bo,1,none⟩) (Nat.le_refl _) (.int .i64 vv);clear hI ak;generalize wd.setCell ⟨bo,1,none⟩ (.int .i64 vv)=w5 at hR Bo ho hb⊢;have bM:=Bo.lt;have aM:Below w5.heap.size w5 (w5.alloc (.cells #[] 187)):=by go_grown
   have bk:=World.ownsRow_lit (size:=2) (e:=187) w5 #[] 0 (Nat.le_refl _) (by decide) rfl;have bh:∀ (ops:Array Oper) (rest:List Oper) (o:Oper) (L:Act) (Q:Exit→Act→World→Prop) (ap:o.guard=none) (sx x:Operand) (ho:o.op=.call {callee:=.builtin .append,args:=#[sx,x],argTypes:=#[70,70]}) (hs:L.eval sx=.slice (some ⟨w5.heap.size,0,none⟩) 0 0) (hx:L.eval x=.slice nb d.length nc)
     (hh:∀a' c' w',w'.ownsRow w5.heap.size 187 2 (.slice a' d.length c') d.length (z0h d)→Below w5.heap.size (w5.alloc (.cells #[] 187)) w'→wpList Tryz.prog ops Q rest (L.put o.dst (.slice a' d.length c')) w'),wpList Tryz.prog ops Q (o::rest) L (w5.alloc (.cells #[] 187)):=
    fun ops rest o L Q ap sx x ho hs hx hh=>z0A _ ap sx x ho w5.heap.size w5.heap.size hs bk nb d nc hx (hR.below aM) a6 (by omega) (by simp) hh
   go_wp2_with (at_builtin;refine bh _ _ _ _ _ rfl _ _ rfl rfl rfl ?_)
   intro a7 c7 w7 o7 aE;have Z:Below w5.heap.size w5 w7:=aM.trans aE;have bt:=z5q ho o7 (Nat.le_refl _);replace Bo:=Bo.below Z;replace ho:=z0d ho Z;replace hb:=hb.trans (Z.mono (by omega));have ai:Blk w7 _ _ _:=(hb.block _ bl).trans B0;have ay:Below w.heap.size w w7:=ae.trans (hb.mono (by omega));have bN:=Z.size;clear bh bk aM aE Z hb hR B0 ae;have nU:∀j,(Value.slice ua D.length uc).ownBlock=some j→j≠bo:=fun j hj=>by have:=(ho.lt j hj).1;omega
   have aB:∀j,(Value.slice ua D.length uc).ownBlock=some j→j≠w.heap.size:=fun j hj=>by have:=(ho.lt j hj).1;omega
   have nI:∀j,(Value.slice a7 d.length c7).ownBlock=some j→j≠bo:=fun j hj=>by have:=(o7.lt j hj).1;omega
   have aA:∀j,(Value.slice a7 d.length c7).ownBlock=some j→j≠w.heap.size:=fun j hj=>by have:=(o7.lt j hj).1;omega
   have p3:=Bo.cell 3 _ rfl;have f3:=Bo.frozen 3;obtain⟨q0,q1,q2⟩:=Bo.cel3;have av:=Bo.set 3 (.slice a7 d.length c7);have au:Blk (w7.setCell ⟨bo,3,none⟩ (.slice a7 d.length c7)) w.heap.size 218 #[.int .i64 0,.int .i64 0,.slice none 0 0,.slice none 0 0]:=(Below.heap_setCell _ _ _ _ (by dsimp only;omega)).trans ai;have ar:=z0i (j:=3) (u:=.slice a7 d.length c7) ho nU;have br:=z0i (j:=3) (u:=.slice a7 d.length c7) o7 nI;have aF:=ay.setCell (p:=⟨bo,3,none⟩) (by dsimp only;omega) (.slice a7 d.length c7);obtain⟨r0,r1,r2,r3⟩:=au.cel4;obtain⟨g0,g1,g2,g3⟩:=au.frz4;have bE:=au.lt;have RR:Hid (_∧_∧_):=⟨ar,br,aF⟩
   clear Bo ai ho o7 ay au ar br aF av
   go_wp2
   refine bodyPost_ret (v:=.agg #[.int .i64 0,.int .i64 vv,.slice ua D.length uc,.slice a7 d.length c7]) (by simp[results,Tryz.results135,go_sem,r0,r1,r2,r3]) rfl ?_;rw[HE.out.1,HE.out.2.1,HE.out.2.2.1,HE.out.2.2.2];refine⟨_,_,_,_,rfl,⟨OwnS.of (z0p (z0i (z0i (z0i (z0i RR.out.1 aB) aB) aB) aB) (by omega)),OwnS.of (z0p (z0i (z0i (z0i (z0i RR.out.2.1 aA) aA) aA) aA) (by omega)),bt⟩,?_⟩;refine Below.setCell (Below.setCell (Below.setCell (Below.setCell RR.out.2.2 ?_ _) ?_ _) ?_ _) ?_ _<;>exact Nat.le_refl _
end
end Go.Proofs.YtljbililjlafcaaGreatDoor
