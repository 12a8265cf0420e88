/- Texts joined,with what the laws reach alone. -/
import Derived.Test.YtljbililjlafcaaGreatDoorILAC
import Derived.Laws.StructEq
import Derived.Shelf.SortM.Plain
import Derived.Shelf.SortM.SortNone
import Derived.Shelf.SlicesG.In.CompactI
set_option linter.unusedVariables false
set_option linter.unusedSimpArgs false
set_option maxRecDepth 100000
set_option maxHeartbeats 4000000
namespace Go.Proofs.YtljbililjlafcaaGreatDoor
open Go.RowKit Go.BigFrame
def z98(zs:List Int):Bool:=decide (0<cnt 7 zs 0) && decide (0<cnt 7 zs 1)
def chC(zs:List Int)(m c:Int):Int:=if vf zs 2=0 then(if inB c 0 1 then(if z98 zs then 1 else if z1Y zs m then 0 else 10)else 3)else vf zs 2
def chD(z o:Int):Bool:=if 0<z then decide (2≤z)else decide (2≤o)
def chK(z o:Int):Bool:=!decide (0<z) && !decide (0<o)
def chV(z o c:Int):Int:=if 0<z then 0 else if 0<o then 1 else c
def cfD(zs:List Int)(m c:Int):Bool:=if chC zs m c=0 then chD (cnt m zs 0) (cnt m zs 1)else false
def cfK(zs:List Int)(m c:Int):Bool:=if chC zs m c=0 then chK (cnt m zs 0) (cnt m zs 1)else false
def cfV(zs:List Int)(m c:Int):Int:=if chC zs m c=0 then chV (cnt m zs 0) (cnt m zs 1) c else 0
theorem q24(a b c p q r:Bool):z9L (a && p) (b && q) (c && r)≤z9L p q r:=by
 cases a<;>cases b<;>cases c<;>cases p<;>cases q<;>cases r<;>decide
theorem bit7:bitB 7 0=true∧bitB 7 1=true∧bitB 7 2=true:=by decide+kernel
theorem q2n(m:Int)(zs:List Int)(v:Int):cnt m zs v≤cnt 7 zs v:=by
 unfold cnt;rw[bit7.1,bit7.2.1,bit7.2.2,Bool.true_and,Bool.true_and,Bool.true_and];exact q24 _ _ _ _ _ _
theorem ch4:∀z∈[(0:Int),1,2,3],∀o∈[(0:Int),1,2,3],(decide (0<z) && decide (0<o))=false→rd (pick5 z o)=chD z o∧rc (pick5 z o)=chK z o∧(rc (pick5 z o)=true→¬0<z∧¬0<o)∧(rc (pick5 z o)=false→(0<z∧rv (pick5 z o)=0)∨(¬0<z∧0<o∧rv (pick5 z o)=1)):=by decide+kernel
theorem q4C{zs:List Int}(m:Int)(h:z98 zs=false):(decide (0<cnt m zs 0) && decide (0<cnt m zs 1))=false:=by
 have h0:=q2n m zs 0;have h1:=q2n m zs 1;unfold z98 at h;rw[Bool.and_eq_false_iff,decide_eq_false_iff_not,decide_eq_false_iff_not]at h⊢;omega
theorem z49(a:Option Addr)(cap:Nat)(zs:List Int)(m c:Int)(w:World)(hG:Rul w)(h:Row .i64 w a zs)(hm:zs.length≤9223372036854775807):
  Calls Tryz.prog 194 #[.slice a zs.length cap,.int .i64 m,.int .i64 c] w fun e w'=>e=.returned (.agg #[.int .i64 (chC zs m c),.bool (cfD zs m c),.bool (cfK zs m c),.int .i64 (cfV zs m c)])∧Below w.heap.size w w':=by
 have hB:Below w.heap.size w (w.alloc (.cells #[.int .i64 0,.bool false,.bool false,.int .i64 0] 210)):=by go_grown
 have hv:=fun w h=>z0z a cap zs 2 w h hm
 rw[q4B]at hv;by_cases h0:vf zs 2=0
 ·have hl:=z0P h0;rw[h0]at hv;rw[hl]at hv⊢;by_cases A:inB c 0 1=true
  ·have J:=fun w h=>z13 a cap zs 7 w h hl (by decide)
   have g0:=q2m (z1T 7 zs 0);have g1:=q2m (z1T 7 zs 1);by_cases C:z98 zs=true
   ·have e1:chC zs m c=1:=by simp[chC,h0,A,C]
    have e2:cfD zs m c=false:=by simp[cfD,e1]
    have e3:cfK zs m c=false:=by simp[cfK,e1]
    have e4:cfV zs m c=0:=by simp[cfV,e1]
    rw[e1,e2,e3,e4];unfold z98 at C;rw[Bool.and_eq_true]at C;rw[C.1]at g0;rw[C.2]at g1;generalize fl (cnt 7 zs 0)=z7 at*;generalize fl (cnt 7 zs 1)=o7 at*;clear e1 e2 e3 e4 h0 hl C;go_enter Tryz.func194,Tryz.ntmps194
    go_wp2_with (first|(go_at_call 140;refine(hv _ (h.below (by go_grown))).mono ?_;rintro e w' ⟨rfl,rfl⟩)|(go_at_call 64;refine(z0I _ _ _ _).mono ?_;rintro e w' ⟨rfl,rfl⟩)|(go_at_call 216;refine(J _ (h.below (by go_grown))).mono ?_;rintro e w' ⟨rfl,rfl⟩))
    exact bodyPost_ret (v:=.agg #[.int .i64 1,.bool false,.bool false,.int .i64 0]) (by simp[results,Tryz.results194,go_sem]) rfl ⟨rfl,by go_grown⟩
   ·have d:z98 zs=false:=by simpa using C
    clear C;have D:=d;unfold z98 at D;have hh:=fun w h=>z4r a cap zs m w h hl
    by_cases h1:z1Y zs m=true
    ·obtain⟨q1,q2,q3,q4⟩:=ch4 _ (q1p (z1T m zs 0)) _ (q1p (z1T m zs 1)) (q4C m d);have e1:chC zs m c=0:=by simp[chC,h0,A,d,h1]
     have e2:cfD zs m c=rd (pick5 (cnt m zs 0) (cnt m zs 1)):=by simp[cfD,e1,q1]
     have e3:cfK zs m c=rc (pick5 (cnt m zs 0) (cnt m zs 1)):=by simp[cfK,e1,q2]
     have e4:cfV zs m c=if rc (pick5 (cnt m zs 0) (cnt m zs 1))=true then c else rv (pick5 (cnt m zs 0) (cnt m zs 1)):=by
      simp only[cfV,e1,if_true,chV];by_cases hk:rc (pick5 (cnt m zs 0) (cnt m zs 1))=true
      ·have:=q3 hk;rw[if_pos hk,if_neg this.1,if_neg this.2]
      ·rw[if_neg hk];rcases q4 (by simpa using hk)with⟨x,y⟩|⟨x,y,z⟩
       ·rw[if_pos x,y]
       ·rw[if_neg x,if_pos y,z]
     rw[e1,e2,e3,e4];rw[h1]at hh;have hc:=fun w h=>z13 a cap zs m w h hl (z37 h1)
     have hr:=fun w h=>z4q _ _ w h (z1T m zs 0) (z1T m zs 1)
     clear q1 q2 q3 q4 e1 e2 e3 e4 h0 hl h1 d;unfold q3R q3F at hr;generalize pick5 (cnt m zs 0) (cnt m zs 1)=E at*;generalize fl (cnt m zs 0)=z0 at*;generalize fl (cnt m zs 1)=o0 at*;generalize rz E=a0 at*;generalize ro E=a1 at*;generalize rp E=a2 at*;generalize rd E=a4 at*;generalize rc E=a5 at*;generalize rv E=a6 at*;have Bx:=Blk.new w 210 #[.int .i64 0,.bool false,.bool false,.int .i64 0];have V:=hr _ (hG.below hB);have T:=hc _ (h.below hB);have U:=hh _ (h.below hB);have M:=J _ (h.below hB);have X:=hv _ (h.below hB);clear hr hc hh J hv;have I:decide (0<cnt 7 zs 0)=false∨decide (0<cnt 7 zs 0)=true∧decide (0<cnt 7 zs 1)=false:=by
      revert D
      cases decide (0<cnt 7 zs 0)<;>cases decide (0<cnt 7 zs 1)<;>simp
     clear D;generalize fl (cnt 7 zs 0)=z7 at*;generalize fl (cnt 7 zs 1)=o7 at*;generalize decide (0<cnt 7 zs 0)=t0 at*;generalize decide (0<cnt 7 zs 1)=t1 at*;have hg:Hid ((FloatKind.f64.format.order z7 0==some .gt)=t0∧(FloatKind.f64.format.order o7 0==some .gt)=t1):=⟨g0,g1⟩
     clear g0 g1;go_enter Tryz.func194,Tryz.ntmps194
     go_wp2_with fail
     generalize w.alloc (.cells #[.int .i64 0,.bool false,.bool false,.int .i64 0] 210)=W at*;refine X.mono ?_;rintro e w' ⟨rfl,hw⟩;replace hw:=hw.symm;subst hw
     go_wp2_with fail
     refine(z0I _ _ _ _).mono ?_;rintro e w' ⟨rfl,hw⟩;replace hw:=hw.symm;subst hw;rw[A]
     go_wp2_with fail
     refine M.mono ?_;rintro e w' ⟨rfl,hw⟩;replace hw:=hw.symm;subst hw;clear X M;obtain⟨g0,g1⟩:=hg.out;clear hg;rcases I with rfl|⟨rfl,rfl⟩
     all_goals
      go_wp2_with fail
      refine U.mono ?_;rintro e w' ⟨rfl,hw⟩;replace hw:=hw.symm;subst hw
      go_wp2_with fail
      refine T.mono ?_;rintro e w' ⟨rfl,hw⟩;replace hw:=hw.symm;subst hw
      go_wp2_with fail
      refine V.mono ?_;rintro e w3 ⟨rfl,hb⟩;replace Bx:=Bx.below hb;replace hB:=hB.trans (hb.mono hB.size);have Z:=q23 a0 a1 a2 0 a4 a5 a6 w3;obtain⟨p0,p1,p2,p3⟩:=Bx.cel4;obtain⟨f0,f1,f2,f3⟩:=Bx.frz4;have L:=Bx.lt;clear U T V hb Bx
      cases a5
      ·go_wp2
       exact bodyPost_ret (v:=.agg #[.int .i64 0,.bool a4,.bool false,.int .i64 a6]) (by simp[results,Tryz.results194,go_sem,p0,p1,p2,p3,L,Nat.ne_of_lt L]) rfl ⟨rfl,by repeat first|exact hB|refine Below.setCell ?_ (by first|exact Nat.le_refl _|(have:=hB.size;simp;omega)) _|refine Below.alloc ?_ (by have:=hB.size;simp;omega) _⟩
      ·go_wp2
       exact bodyPost_ret (v:=.agg #[.int .i64 0,.bool a4,.bool true,.int .i64 c]) (by simp[results,Tryz.results194,go_sem,p0,p1,p2,p3,L,Nat.ne_of_lt L]) rfl ⟨rfl,by repeat first|exact hB|refine Below.setCell ?_ (by first|exact Nat.le_refl _|(have:=hB.size;simp;omega)) _|refine Below.alloc ?_ (by have:=hB.size;simp;omega) _⟩
    ·have O:z1Y zs m=false:=by simpa using h1
     have e1:chC zs m c=10:=by simp[chC,h0,A,d,O]
     have e2:cfD zs m c=false:=by simp[cfD,e1]
     have e3:cfK zs m c=false:=by simp[cfK,e1]
     have e4:cfV zs m c=0:=by simp[cfV,e1]
     rw[e1,e2,e3,e4];rw[O]at hh;have I:decide (0<cnt 7 zs 0)=false∨decide (0<cnt 7 zs 0)=true∧decide (0<cnt 7 zs 1)=false:=by
      revert D
      cases decide (0<cnt 7 zs 0)<;>cases decide (0<cnt 7 zs 1)<;>simp
     clear e1 e2 e3 e4 h0 hl h1 D d hB;generalize fl (cnt 7 zs 0)=z7 at*;generalize fl (cnt 7 zs 1)=o7 at*;generalize decide (0<cnt 7 zs 0)=t0 at*;generalize decide (0<cnt 7 zs 1)=t1 at*;rcases I with rfl|⟨rfl,rfl⟩
     all_goals
      go_enter Tryz.func194,Tryz.ntmps194
      go_wp2_with (first|(go_at_call 140;refine(hv _ (h.below (by go_grown))).mono ?_;rintro e w' ⟨rfl,rfl⟩)|(go_at_call 64;refine(z0I _ _ _ _).mono ?_;rintro e w' ⟨rfl,rfl⟩)|(go_at_call 216;refine(J _ (h.below (by go_grown))).mono ?_;rintro e w' ⟨rfl,rfl⟩)|(go_at_call 217;refine(hh _ (h.below (by go_grown))).mono ?_;rintro e w' ⟨rfl,rfl⟩))
      exact bodyPost_ret (v:=.agg #[.int .i64 10,.bool false,.bool false,.int .i64 0]) (by simp[results,Tryz.results194,go_sem]) rfl ⟨rfl,by go_grown⟩
  ·have N:inB c 0 1=false:=by simpa using A
   have e1:chC zs m c=3:=by simp[chC,h0,N]
   have e2:cfD zs m c=false:=by simp[cfD,e1]
   have e3:cfK zs m c=false:=by simp[cfK,e1]
   have e4:cfV zs m c=0:=by simp[cfV,e1]
   rw[e1,e2,e3,e4];clear e1 e2 e3 e4 h0 hl A hB;go_enter Tryz.func194,Tryz.ntmps194
   go_wp2_with (first|(go_at_call 140;refine(hv _ (h.below (by go_grown))).mono ?_;rintro e w' ⟨rfl,rfl⟩)|(go_at_call 64;refine(z0I _ _ _ _).mono ?_;rintro e w' ⟨rfl,rfl⟩))
   exact bodyPost_ret (v:=.agg #[.int .i64 3,.bool false,.bool false,.int .i64 0]) (by simp[results,Tryz.results194,go_sem]) rfl ⟨rfl,by go_grown⟩
 ·have e1:chC zs m c=vf zs 2:=by simp[chC,h0]
  have e2:cfD zs m c=false:=by simp[cfD,e1,h0]
  have e3:cfK zs m c=false:=by simp[cfK,e1,h0]
  have e4:cfV zs m c=0:=by simp[cfV,e1,h0]
  rw[e1,e2,e3,e4];have Y:(vf zs 2 !=0)=true:=by simpa using h0
  clear e1 e2 e3 e4 h0 hB;generalize vf zs 2=x at*;go_enter Tryz.func194,Tryz.ntmps194
  go_wp2_with (go_at_call 140;refine(hv _ (h.below (by go_grown))).mono ?_;rintro e w' ⟨rfl,rfl⟩)
  exact bodyPost_ret (v:=.agg #[.int .i64 x,.bool false,.bool false,.int .i64 0]) (by simp[results,Tryz.results194,go_sem]) rfl ⟨rfl,by go_grown⟩
theorem z86(a:Option Addr)(cap:Nat)(zs:List Int)(w:World)(h:Row .i64 w a zs)(hl:zs.length=3):
  Calls Tryz.prog 164 #[.slice a 3 cap] w fun e w'=>e=.returned (.bool (z98 zs))∧Below w.heap.size w w':=by
 have hc0:=z0B a cap zs 7 0 w h hl (by decide);have hc1:=fun w h=>z0B a cap zs 7 1 w h hl (by decide)
 unfold z98;generalize cnt 7 zs 0=z at*;generalize cnt 7 zs 1=o at*;by_cases hz:0<z
 ·have hd:decide (0<z)=true:=decide_eq_true hz;rw[hd];go_enter Tryz.func164,Tryz.ntmps164
  go_wp2_with fail
  refine hc0.mono ?_;rintro e w1 ⟨rfl,b1⟩;have h1:=hc1 w1 (h.below b1);clear hc0 hc1
  go_wp2_with fail
  refine h1.mono ?_;rintro e w2 ⟨rfl,b2⟩;replace b2:=b1.trans (b2.mono b1.size);clear h1
  go_wp2
  go_ret;exact⟨by simp,b2⟩
 ·have hd:decide (0<z)=false:=decide_eq_false hz;rw[hd];clear hc1;go_enter Tryz.func164,Tryz.ntmps164
  go_wp2_with fail
  refine hc0.mono ?_;rintro e w1 ⟨rfl,b1⟩;clear hc0
  go_wp2
  go_ret;exact⟨by simp,b1⟩
theorem z6K(a:Option Addr)(cap:Nat)(zs:List Int)(m c:Int)(w:World)(h:Row .i64 w a zs)(hl:zs.length=3)(hm:inB m 0 7=true):
  Calls Tryz.prog 165 #[.slice a 3 cap,.int .i64 m,.int .i64 c] w fun e w'=>e=.returned (.agg #[.int .i64 0,.bool (chD (cnt m zs 0) (cnt m zs 1)),.bool (chK (cnt m zs 0) (cnt m zs 1)),.int .i64 (chV (cnt m zs 0) (cnt m zs 1) c)])∧Below w.heap.size w w':=by
 have hB:Below w.heap.size w (w.alloc (.cells #[.int .i64 0,.bool false,.bool false,.int .i64 0] 210)):=by go_grown
 have Bx:=Blk.new w 210 #[.int .i64 0,.bool false,.bool false,.int .i64 0];have hi0:=z1T m zs 0;have hi1:=z1T m zs 1;have hc0:=z0B a cap zs m 0 _ (h.below hB) hl hm;have hc1:=fun w h=>z0B a cap zs m 1 w h hl hm
 generalize cnt m zs 0=z at*;generalize cnt m zs 1=o at*;obtain⟨D,hD⟩:∃D,chD z o=D:=⟨_,rfl⟩
 obtain⟨K,hK⟩:∃K,chK z o=K:=⟨_,rfl⟩
 obtain⟨V,hV⟩:∃V,chV z o c=V:=⟨_,rfl⟩
 rw[hD,hK,hV];unfold chD at hD;unfold chK at hK;unfold chV at hV;by_cases hz:0<z
 ·have HE:Hid (D=decide (2≤z)∧K=false∧V=0):=by
   rw[if_pos hz]at hD hV;rw[decide_eq_true hz]at hK;exact⟨hD.symm,hK.symm,hV.symm⟩
  clear hD hK hV hc1;go_enter Tryz.func165,Tryz.ntmps165
  go_wp2
  refine wp_loop_rounds 1 ?_;rw[rounds_succ]
  go_wp2_with fail
  generalize w.alloc (.cells #[.int .i64 0,.bool false,.bool false,.int .i64 0] 210)=W at*;refine hc0.mono ?_;rintro e w1 ⟨rfl,hb⟩;replace Bx:=Bx.below hb;replace hB:=hB.trans (hb.mono hB.size);obtain⟨p0,p1,p2,p3⟩:=Bx.cel4;obtain⟨f0,f1,f2,f3⟩:=Bx.frz4;clear hb Bx hc0
  go_wp2
  exact bodyPost_ret (v:=.agg #[.int .i64 0,.bool (decide (2≤z)),.bool false,.int .i64 0]) (by simp[results,Tryz.results165,go_sem,p0,p1,p2,p3]) rfl ⟨by rw[HE.out.1,HE.out.2.1,HE.out.2.2],((((hB.setCell (p:=⟨w.heap.size,0,none⟩) (Nat.le_refl _) _).setCell (p:=⟨w.heap.size,1,none⟩) (Nat.le_refl _) _).setCell (p:=⟨w.heap.size,2,none⟩) (Nat.le_refl _) _).setCell (p:=⟨w.heap.size,3,none⟩) (Nat.le_refl _) _)⟩
 ·have HE:Hid (D=decide (2≤o)∧K=!decide (0<o)∧V=if 0<o then 1 else c):=by
   rw[if_neg hz]at hD hV;rw[decide_eq_false hz]at hK;exact⟨hD.symm,by simpa using hK.symm,hV.symm⟩
  clear hD hK hV;go_enter Tryz.func165,Tryz.ntmps165
  go_wp2
  refine wp_loop_rounds 3 ?_;rw[rounds_succ]
  go_wp2_with fail
  generalize w.alloc (.cells #[.int .i64 0,.bool false,.bool false,.int .i64 0] 210)=W at*;refine hc0.mono ?_;rintro e w1 ⟨rfl,hb⟩;replace Bx:=Bx.below hb;replace hB:=hB.trans (hb.mono hB.size);have h1:=hc1 w1 (h.below hB);clear hb hc0 hc1
  go_wp2_with fail
  rw[rounds_succ]
  go_wp2_with fail
  refine h1.mono ?_;rintro e w2 ⟨rfl,hb⟩;replace Bx:=Bx.below hb;replace hB:=hB.trans (hb.mono hB.size);obtain⟨p0,p1,p2,p3⟩:=Bx.cel4;obtain⟨f0,f1,f2,f3⟩:=Bx.frz4;clear hb Bx h1;by_cases ho:0<o
  ·have HE2:Hid (D=decide (2≤o)∧K=false∧V=1):=by
    obtain⟨x,y,z⟩:=HE.out;rw[if_pos ho]at z;rw[decide_eq_true ho]at y;exact⟨x,y,z⟩
   clear HE
   go_wp2
   exact bodyPost_ret (v:=.agg #[.int .i64 0,.bool (decide (2≤o)),.bool false,.int .i64 1]) (by simp[results,Tryz.results165,go_sem,p0,p1,p2,p3]) rfl ⟨by rw[HE2.out.1,HE2.out.2.1,HE2.out.2.2],((((hB.setCell (p:=⟨w.heap.size,0,none⟩) (Nat.le_refl _) _).setCell (p:=⟨w.heap.size,1,none⟩) (Nat.le_refl _) _).setCell (p:=⟨w.heap.size,2,none⟩) (Nat.le_refl _) _).setCell (p:=⟨w.heap.size,3,none⟩) (Nat.le_refl _) _)⟩
  ·have HE2:Hid (D=false∧K=true∧V=c):=by
    obtain⟨x,y,z⟩:=HE.out;rw[if_neg ho]at z;rw[decide_eq_false ho]at y;rw[decide_eq_false (by omega)]at x;exact⟨x,y,z⟩
   clear HE
   go_wp2
   rw[rounds_succ]
   go_wp2
   exact bodyPost_ret (v:=.agg #[.int .i64 0,.bool false,.bool true,.int .i64 c]) (by simp[results,Tryz.results165,go_sem,p0,p1,p2,p3]) rfl ⟨by rw[HE2.out.1,HE2.out.2.1,HE2.out.2.2],((((hB.setCell (p:=⟨w.heap.size,0,none⟩) (Nat.le_refl _) _).setCell (p:=⟨w.heap.size,1,none⟩) (Nat.le_refl _) _).setCell (p:=⟨w.heap.size,2,none⟩) (Nat.le_refl _) _).setCell (p:=⟨w.heap.size,3,none⟩) (Nat.le_refl _) _)⟩
theorem z5a(a:Option Addr)(cap:Nat)(zs:List Int)(m c:Int)(w:World)(h:Row .i64 w a zs)(hm:zs.length≤9223372036854775807):
  Calls Tryz.prog 132 #[.slice a zs.length cap,.int .i64 m,.int .i64 c] w fun e w'=>e=.returned (.agg #[.int .i64 (chC zs m c),.bool (cfD zs m c),.bool (cfK zs m c),.int .i64 (cfV zs m c)])∧Below w.heap.size w w':=by
 obtain⟨C,hC⟩:∃C,chC zs m c=C:=⟨_,rfl⟩
 obtain⟨D,hD⟩:∃D,cfD zs m c=D:=⟨_,rfl⟩
 obtain⟨K,hK⟩:∃K,cfK zs m c=K:=⟨_,rfl⟩
 obtain⟨V,hV⟩:∃V,cfV zs m c=V:=⟨_,rfl⟩
 rw[hC,hD,hK,hV];have HN:Hid (∀x,chC zs m c=x→x≠0→C=x∧D=false∧K=false∧V=0):=by
  intro x hx hn;refine⟨hC.symm.trans hx,?_,?_,?_⟩
  ·rw[←hD];simp[cfD,hx,hn]
  ·rw[←hK];simp[cfK,hx,hn]
  ·rw[←hV];simp[cfV,hx,hn]
 have HY:Hid (chC zs m c=0→C=0∧D=chD (cnt m zs 0) (cnt m zs 1)∧K=chK (cnt m zs 0) (cnt m zs 1)∧V=chV (cnt m zs 0) (cnt m zs 1) c):=by
  intro hx;refine⟨hC.symm.trans hx,?_,?_,?_⟩
  ·rw[←hD];simp[cfD,hx]
  ·rw[←hK];simp[cfK,hx]
  ·rw[←hV];simp[cfV,hx]
 clear hC hD hK hV;have hB:Below w.heap.size w (w.alloc (.cells #[.int .i64 0,.bool false,.bool false,.int .i64 0] 210)):=by go_grown
 have Bx:=Blk.new w 210 #[.int .i64 0,.bool false,.bool false,.int .i64 0];have hv:=z0Q a cap zs 2 _ (h.below hB) hm;go_enter Tryz.func132,Tryz.ntmps132
 go_wp2_with fail
 generalize w.alloc (.cells #[.int .i64 0,.bool false,.bool false,.int .i64 0] 210)=W at*;refine hv.mono ?_;rintro e w1 ⟨rfl,hb⟩;replace Bx:=Bx.below hb;replace hB:=hB.trans (hb.mono hB.size);clear hv hb;by_cases h0:vf zs 2=0
 ·have hl:=z0P h0;rw[h0,hl];by_cases d:inB c 0 1=true
  ·have I:=z86 a cap zs w1 (h.below hB) hl
   go_wp2_with fail
   refine(z04 _ _ _ _).mono ?_;rintro e w' ⟨rfl,hw⟩;replace hw:=hw.symm;subst hw;rw[d]
   go_wp2_with fail
   refine I.mono ?_;rintro e w2 ⟨rfl,hb⟩;replace Bx:=Bx.below hb;replace hB:=hB.trans (hb.mono hB.size);clear hb I;by_cases z:z98 zs=true
   ·have HE:=HN.out 1 (by simp[chC,h0,d,z]) (by omega);have HE:Hid _:=HE;obtain⟨p0,p1,p2,p3⟩:=Bx.cel4;obtain⟨f0,f1,f2,f3⟩:=Bx.frz4;rw[z];clear HN HY Bx h0 hl
    go_wp2
    exact bodyPost_ret (v:=.agg #[.int .i64 1,.bool false,.bool false,.int .i64 0]) (by simp[results,Tryz.results132,go_sem,p0,p1,p2,p3]) rfl ⟨by rw[HE.out.1,HE.out.2.1,HE.out.2.2.1,HE.out.2.2.2],((((hB.setCell (p:=⟨w.heap.size,0,none⟩) (Nat.le_refl _) _).setCell (p:=⟨w.heap.size,1,none⟩) (Nat.le_refl _) _).setCell (p:=⟨w.heap.size,2,none⟩) (Nat.le_refl _) _).setCell (p:=⟨w.heap.size,3,none⟩) (Nat.le_refl _) _)⟩
   ·have y:z98 zs=false:=by simpa using z
    have hh:=z4s a cap zs m w2 (h.below hB) hl;rw[y]
    go_wp2_with fail
    refine hh.mono ?_;rintro e w3 ⟨rfl,hb⟩;replace Bx:=Bx.below hb;replace hB:=hB.trans (hb.mono hB.size);clear hb hh;by_cases h1:z1Y zs m=true
    ·have HE:=HY.out (by simp[chC,h0,d,y,h1]);have HE:Hid _:=HE;have J:=z6K a cap zs m c w3 (h.below hB) hl (z37 h1);rw[h1];generalize chD (cnt m zs 0) (cnt m zs 1)=D1 at*;generalize chK (cnt m zs 0) (cnt m zs 1)=K1 at*;generalize chV (cnt m zs 0) (cnt m zs 1) c=V1 at*
     go_wp2_with fail
     refine J.mono ?_;rintro e w4 ⟨rfl,hb⟩;replace Bx:=Bx.below hb;replace hB:=hB.trans (hb.mono hB.size);obtain⟨p0,p1,p2,p3⟩:=Bx.cel4;obtain⟨f0,f1,f2,f3⟩:=Bx.frz4;clear hb J HN HY Bx h0 hl
     go_wp2
     exact bodyPost_ret (v:=.agg #[.int .i64 0,.bool D1,.bool K1,.int .i64 V1]) (by simp[results,Tryz.results132,go_sem,p0,p1,p2,p3]) rfl ⟨by rw[HE.out.1,HE.out.2.1,HE.out.2.2.1,HE.out.2.2.2],((((hB.setCell (p:=⟨w.heap.size,0,none⟩) (Nat.le_refl _) _).setCell (p:=⟨w.heap.size,1,none⟩) (Nat.le_refl _) _).setCell (p:=⟨w.heap.size,2,none⟩) (Nat.le_refl _) _).setCell (p:=⟨w.heap.size,3,none⟩) (Nat.le_refl _) _)⟩
    ·have E:z1Y zs m=false:=by simpa using h1
     have HE:=HN.out 10 (by simp[chC,h0,d,y,E]) (by omega);have HE:Hid _:=HE;rw[E];obtain⟨p0,p1,p2,p3⟩:=Bx.cel4;obtain⟨f0,f1,f2,f3⟩:=Bx.frz4;clear HN HY Bx h0 hl
     go_wp2
     exact bodyPost_ret (v:=.agg #[.int .i64 10,.bool false,.bool false,.int .i64 0]) (by simp[results,Tryz.results132,go_sem,p0,p1,p2,p3]) rfl ⟨by rw[HE.out.1,HE.out.2.1,HE.out.2.2.1,HE.out.2.2.2],((((hB.setCell (p:=⟨w.heap.size,0,none⟩) (Nat.le_refl _) _).setCell (p:=⟨w.heap.size,1,none⟩) (Nat.le_refl _) _).setCell (p:=⟨w.heap.size,2,none⟩) (Nat.le_refl _) _).setCell (p:=⟨w.heap.size,3,none⟩) (Nat.le_refl _) _)⟩
  ·have A:inB c 0 1=false:=by simpa using d
   have HE:=HN.out 3 (by simp[chC,h0,A]) (by omega);have HE:Hid _:=HE;obtain⟨p0,p1,p2,p3⟩:=Bx.cel4;obtain⟨f0,f1,f2,f3⟩:=Bx.frz4;clear HN HY Bx h0 hl
   go_wp2_with (go_at_call 54;refine(z04 _ _ _ _).mono ?_;rintro e w' ⟨rfl,hw⟩;replace hw:=hw.symm;subst hw)
   exact bodyPost_ret (v:=.agg #[.int .i64 3,.bool false,.bool false,.int .i64 0]) (by simp[results,Tryz.results132,go_sem,p0,p1,p2,p3]) rfl ⟨by rw[HE.out.1,HE.out.2.1,HE.out.2.2.1,HE.out.2.2.2],((((hB.setCell (p:=⟨w.heap.size,0,none⟩) (Nat.le_refl _) _).setCell (p:=⟨w.heap.size,1,none⟩) (Nat.le_refl _) _).setCell (p:=⟨w.heap.size,2,none⟩) (Nat.le_refl _) _).setCell (p:=⟨w.heap.size,3,none⟩) (Nat.le_refl _) _)⟩
 ·have HE:=HN.out (vf zs 2) (by simp[chC,h0]) h0;have HE:Hid _:=HE;have L:(vf zs 2 !=0)=true:=by simpa using h0
  obtain⟨p0,p1,p2,p3⟩:=Bx.cel4;obtain⟨f0,f1,f2,f3⟩:=Bx.frz4;clear HN HY Bx h0;generalize vf zs 2=x at*
  go_wp2
  exact bodyPost_ret (v:=.agg #[.int .i64 x,.bool false,.bool false,.int .i64 0]) (by simp[results,Tryz.results132,go_sem,p0,p1,p2,p3]) rfl ⟨by rw[HE.out.1,HE.out.2.1,HE.out.2.2.1,HE.out.2.2.2],((((hB.setCell (p:=⟨w.heap.size,0,none⟩) (Nat.le_refl _) _).setCell (p:=⟨w.heap.size,1,none⟩) (Nat.le_refl _) _).setCell (p:=⟨w.heap.size,2,none⟩) (Nat.le_refl _) _).setCell (p:=⟨w.heap.size,3,none⟩) (Nat.le_refl _) _)⟩
def z2P(f:Nat→Bool)(n:Nat):Bool:=(List.range n).any f
theorem z38(f:Nat→Bool)(k:Nat)(h:z2P f k=false)(hk:f k=false):z2P f (k+1)=false:=by
 unfold z2P at*;rw[List.range_succ,List.any_append,h,List.any_cons,hk];rfl
theorem z5Q(f:Nat→Bool)(k:Nat)(hk:k<8)(h:f k=true):z2P f 8=true:=by
 unfold z2P;rw[List.any_eq_true];exact⟨k,List.mem_range.2 hk,h⟩
def pB(zs:List Int)(v:Int)(k:Nat):Bool:=(pfC zs k==0) && (pfV zs k==v)
def mayP(zs:List Int)(v:Int):Bool:=z2P (pB zs v) 8
def rB(zs:List Int)(v:Int)(k:Nat):Bool:=(chC zs k v==0) && (cfV zs k v==v)
def mayR(zs:List Int)(v:Int):Bool:=z2P (rB zs v) 8
theorem z8n(f:Nat→Bool)(h:∀k,f k=false)(n:Nat):z2P f n=false:=by
 unfold z2P;rw[List.any_eq_false];intro x _;rw[h x];decide
theorem q25(zs:List Int)(v:Int)(h:inB v 0 1=false):mayR zs v=false:=by
 refine z8n _ (fun k=>?_) 8;have hc:(chC zs k v==0)=false:=by
  rw[beq_eq_false_iff_ne];unfold chC;rw[h];split
  ·simp
  ·assumption
 simp only[rB,hc,Bool.false_and]
theorem z6L(a:Option Addr)(cap:Nat)(zs:List Int)(v:Int)(w:World)(hG:Rul w)(h:Row .i64 w a zs)(hm:zs.length≤9223372036854775807):
  Calls Tryz.prog 176 #[.slice a zs.length cap,.int .i64 v] w fun e w'=>e=.returned (.bool (mayP zs v))∧Below w.heap.size w w':=by
 have HT:Hid (∀k,k<8→pB zs v k=true→mayP zs v=true):=fun k hk h=>z5Q _ k hk h
 have HF:Hid (z2P (pB zs v) 8=false→mayP zs v=false):=fun h=>h
 generalize mayP zs v=E at HT HF⊢;go_enter Tryz.func176,Tryz.ntmps176
 go_wp2
 go_loopw[6] (fun i wr=>∃k:Nat,k≤8∧i=.int .i64 k∧z2P (pB zs v) k=false∧Below w.heap.size w wr) (fun i _=>8-(intOf i).toNat)
 case atStart=>exact⟨0,Nat.zero_le _,rfl,rfl,Below.refl _ _⟩
 case round=>
  obtain⟨k,hk,rfl,c,hb⟩:=hrel;by_cases D:k<8
  ·have hc:=z6I a cap zs k wr (hG.below hb) (h.below hb) hm;have HS:Hid (pB zs v k=false→z2P (pB zs v) (k+1)=false):=fun h=>z38 _ k c h
   have HY:Hid (pB zs v k=true→E=true):=fun h=>HT.out k D h
   have x:pB zs v k=((pfC zs k==0) && (pfV zs k==v)):=rfl;rw[x]at HS HY;clear HT HF c x;generalize pfC zs k=C at*;generalize pfV zs k=V at*
   go_wp2_with fail
   refine hc.mono ?_;rintro e w1 ⟨rfl,d⟩;replace hb:=hb.trans (d.mono hb.size);clear hc d;by_cases h1:C=0
   ·subst h1;by_cases h2:(V==v)=true
    ·have HE:Hid (E=true):=HY.out (by rw[h2];rfl);clear HS HY
     go_wp2
     go_ret;exact⟨by rw[HE.out];rfl,by repeat first|exact hb|refine Below.alloc ?_ (by have:=hb.size;simp;omega) _⟩
    ·have z:(V==v)=false:=by simpa using h2
     have R:Hid (z2P _ (k+1)=false):=HS.out (by rw[z];rfl);clear HS HY h2
     go_wp2
     go_roundw
     case rel=>exact⟨k+1,by omega,by go_num,R.out,by repeat first|exact hb|refine Below.alloc ?_ (by have:=hb.size;simp;omega) _⟩
     case measure=>simp[intOf];omega
   ·have y:(C==0)=false:=by simpa using h1
    have R:Hid (z2P _ (k+1)=false):=HS.out (by rw[y];rfl);clear HS HY h1
    go_wp2
    go_roundw
    case rel=>exact⟨k+1,by omega,by go_num,R.out,by repeat first|exact hb|refine Below.alloc ?_ (by have:=hb.size;simp;omega) _⟩
    case measure=>simp[intOf];omega
  ·have A:k=8:=by omega
   subst A;have HE:Hid (E=false):=HF.out c;clear HT HF c
   go_wp2
   go_ret;exact⟨by rw[HE.out];rfl,hb⟩
theorem z6M(a:Option Addr)(cap:Nat)(zs:List Int)(v:Int)(w:World)(h:Row .i64 w a zs)(hm:zs.length≤9223372036854775807):
  Calls Tryz.prog 105 #[.slice a zs.length cap,.int .i64 v] w fun e w'=>e=.returned (.bool (mayP zs v))∧Below w.heap.size w w':=by
 have HT:Hid (∀k,k<8→pB zs v k=true→mayP zs v=true):=fun k hk h=>z5Q _ k hk h
 have HF:Hid (z2P (pB zs v) 8=false→mayP zs v=false):=fun h=>h
 generalize mayP zs v=E at HT HF⊢;go_enter Tryz.func105,Tryz.ntmps105
 go_wp2
 go_loopw[5] (fun i wr=>∃k:Nat,k≤8∧i=.int .i64 k∧z2P (pB zs v) k=false∧Below w.heap.size w wr) (fun i _=>8-(intOf i).toNat)
 case atStart=>exact⟨0,Nat.zero_le _,rfl,rfl,Below.refl _ _⟩
 case round=>
  obtain⟨k,hk,rfl,c,hb⟩:=hrel;by_cases D:k<8
  ·have hc:=z6J a cap zs k wr (h.below hb) hm;have HS:Hid (pB zs v k=false→z2P (pB zs v) (k+1)=false):=fun h=>z38 _ k c h
   have HY:Hid (pB zs v k=true→E=true):=fun h=>HT.out k D h
   have x:pB zs v k=((pfC zs k==0) && (pfV zs k==v)):=rfl;rw[x]at HS HY;clear HT HF c x;generalize pfC zs k=C at*;generalize pfV zs k=V at*
   go_wp2_with fail
   refine hc.mono ?_;rintro e w1 ⟨rfl,d⟩;replace hb:=hb.trans (d.mono hb.size);clear hc d;by_cases h1:C=0
   ·subst h1;by_cases h2:(V==v)=true
    ·have HE:Hid (E=true):=HY.out (by rw[h2];rfl);clear HS HY
     go_wp2
     go_ret;exact⟨by rw[HE.out];rfl,by repeat first|exact hb|refine Below.alloc ?_ (by have:=hb.size;simp;omega) _⟩
    ·have z:(V==v)=false:=by simpa using h2
     have R:Hid (z2P _ (k+1)=false):=HS.out (by rw[z];rfl);clear HS HY h2
     go_wp2
     go_roundw
     case rel=>exact⟨k+1,by omega,by go_num,R.out,by repeat first|exact hb|refine Below.alloc ?_ (by have:=hb.size;simp;omega) _⟩
     case measure=>simp[intOf];omega
   ·have y:(C==0)=false:=by simpa using h1
    have R:Hid (z2P _ (k+1)=false):=HS.out (by rw[y];rfl);clear HS HY h1
    go_wp2
    go_roundw
    case rel=>exact⟨k+1,by omega,by go_num,R.out,by repeat first|exact hb|refine Below.alloc ?_ (by have:=hb.size;simp;omega) _⟩
    case measure=>simp[intOf];omega
  ·have A:k=8:=by omega
   subst A;have HE:Hid (E=false):=HF.out c;clear HT HF c
   go_wp2
   go_ret;exact⟨by rw[HE.out];rfl,hb⟩
theorem z3D(a:Option Addr)(cap:Nat)(zs:List Int)(v:Int)(w:World)(hG:Rul w)(h:Row .i64 w a zs)(hm:zs.length≤9223372036854775807):
  Calls Tryz.prog 173 #[.slice a zs.length cap,.int .i64 v] w fun e w'=>e=.returned (.bool (mayR zs v))∧Below w.heap.size w w':=by
 have HT:Hid (∀k,k<8→rB zs v k=true→mayR zs v=true):=fun k hk h=>z5Q _ k hk h
 have HF:Hid (z2P (rB zs v) 8=false→mayR zs v=false):=fun h=>h
 generalize mayR zs v=E at HT HF⊢;go_enter Tryz.func173,Tryz.ntmps173
 go_wp2
 go_loopw[7] (fun i wr=>∃k:Nat,k≤8∧i=.int .i64 k∧z2P (rB zs v) k=false∧Below w.heap.size w wr) (fun i _=>8-(intOf i).toNat)
 case atStart=>exact⟨0,Nat.zero_le _,rfl,rfl,Below.refl _ _⟩
 case round=>
  obtain⟨k,hk,rfl,c,hb⟩:=hrel;by_cases I:k<8
  ·have hc:=z49 a cap zs k v wr (hG.below hb) (h.below hb) hm;have HS:Hid (rB zs v k=false→z2P (rB zs v) (k+1)=false):=fun h=>z38 _ k c h
   have HY:Hid (rB zs v k=true→E=true):=fun h=>HT.out k I h
   have x:rB zs v k=((chC zs k v==0) && (cfV zs k v==v)):=rfl;rw[x]at HS HY;clear HT HF c x;generalize chC zs k v=C at*;generalize cfD zs k v=D at*;generalize cfK zs k v=K at*;generalize cfV zs k v=V at*
   go_wp2_with fail
   refine hc.mono ?_;rintro e w1 ⟨rfl,d⟩;replace hb:=hb.trans (d.mono hb.size);clear hc d;by_cases h1:C=0
   ·subst h1;by_cases h2:(V==v)=true
    ·have HE:Hid (E=true):=HY.out (by rw[h2];rfl);clear HS HY
     go_wp2
     go_ret;exact⟨by rw[HE.out];rfl,by repeat first|exact hb|refine Below.alloc ?_ (by have:=hb.size;simp;omega) _⟩
    ·have z:(V==v)=false:=by simpa using h2
     have R:Hid (z2P _ (k+1)=false):=HS.out (by rw[z];rfl);clear HS HY h2
     go_wp2
     go_roundw
     case rel=>exact⟨k+1,by omega,by go_num,R.out,by repeat first|exact hb|refine Below.alloc ?_ (by have:=hb.size;simp;omega) _⟩
     case measure=>simp[intOf];omega
   ·have y:(C==0)=false:=by simpa using h1
    have R:Hid (z2P _ (k+1)=false):=HS.out (by rw[y];rfl);clear HS HY h1
    go_wp2
    go_roundw
    case rel=>exact⟨k+1,by omega,by go_num,R.out,by repeat first|exact hb|refine Below.alloc ?_ (by have:=hb.size;simp;omega) _⟩
    case measure=>simp[intOf];omega
  ·have A:k=8:=by omega
   subst A;have HE:Hid (E=false):=HF.out c;clear HT HF c
   go_wp2
   go_ret;exact⟨by rw[HE.out];rfl,hb⟩
theorem z3E(a:Option Addr)(cap:Nat)(zs:List Int)(v:Int)(w:World)(h:Row .i64 w a zs)(hm:zs.length≤9223372036854775807):
  Calls Tryz.prog 106 #[.slice a zs.length cap,.int .i64 v] w fun e w'=>e=.returned (.bool (mayR zs v))∧Below w.heap.size w w':=by
 have HT:Hid (∀k,k<8→rB zs v k=true→mayR zs v=true):=fun k hk h=>z5Q _ k hk h
 have HF:Hid (z2P (rB zs v) 8=false→mayR zs v=false):=fun h=>h
 by_cases y:inB v 0 1=true
 case neg=>
  have z:inB v 0 1=false:=by simpa using y
  rw[q25 zs v z];clear y HT HF;go_enter Tryz.func106,Tryz.ntmps106
  go_wp2_with (go_at_call 54;refine(z04 _ _ _ _).mono ?_;rintro e w' ⟨rfl,rfl⟩)
  go_ret;exact⟨rfl,Below.refl _ _⟩
 generalize mayR zs v=E at HT HF⊢;go_enter Tryz.func106,Tryz.ntmps106
 go_wp2_with (go_at_call 54;refine(z04 _ _ _ _).mono ?_;rintro e w' ⟨rfl,hw⟩;replace hw:=hw.symm;subst hw)
 go_loopw[5] (fun i wr=>∃k:Nat,k≤8∧i=.int .i64 k∧z2P (rB zs v) k=false∧Below w.heap.size w wr) (fun i _=>8-(intOf i).toNat)
 case atStart=>exact⟨0,Nat.zero_le _,rfl,rfl,Below.refl _ _⟩
 case round=>
  obtain⟨k,hk,rfl,c,hb⟩:=hrel;by_cases L:k<8
  ·have hc:=z5a a cap zs k v wr (h.below hb) hm;have HS:Hid (rB zs v k=false→z2P (rB zs v) (k+1)=false):=fun h=>z38 _ k c h
   have HY:Hid (rB zs v k=true→E=true):=fun h=>HT.out k L h
   have x:rB zs v k=((chC zs k v==0) && (cfV zs k v==v)):=rfl;rw[x]at HS HY;clear HT HF c x;generalize chC zs k v=C at*;generalize cfD zs k v=D at*;generalize cfK zs k v=K at*;generalize cfV zs k v=V at*
   go_wp2_with fail
   refine hc.mono ?_;rintro e w1 ⟨rfl,d⟩;replace hb:=hb.trans (d.mono hb.size);clear hc d;by_cases h1:C=0
   ·subst h1;by_cases h2:(V==v)=true
    ·have HE:Hid (E=true):=HY.out (by rw[h2];rfl);clear HS HY
     go_wp2
     go_ret;exact⟨by rw[HE.out];rfl,by repeat first|exact hb|refine Below.alloc ?_ (by have:=hb.size;simp;omega) _⟩
    ·have I:(V==v)=false:=by simpa using h2
     have R:Hid (z2P _ (k+1)=false):=HS.out (by rw[I];rfl);clear HS HY h2
     go_wp2
     go_roundw
     case rel=>exact⟨k+1,by omega,by go_num,R.out,by repeat first|exact hb|refine Below.alloc ?_ (by have:=hb.size;simp;omega) _⟩
     case measure=>simp[intOf];omega
   ·have A:(C==0)=false:=by simpa using h1
    have R:Hid (z2P _ (k+1)=false):=HS.out (by rw[A];rfl);clear HS HY h1
    go_wp2
    go_roundw
    case rel=>exact⟨k+1,by omega,by go_num,R.out,by repeat first|exact hb|refine Below.alloc ?_ (by have:=hb.size;simp;omega) _⟩
    case measure=>simp[intOf];omega
  ·have J:k=8:=by omega
   subst J;have HE:Hid (E=false):=HF.out c;clear HT HF c
   go_wp2
   go_ret;exact⟨by rw[HE.out];rfl,hb⟩
abbrev v4:List Int:=[0,1,2,3]
theorem z7P{most x:Int}(hm:most=1∨most=2)(h:vOk most x=true):x∈v4:=by
 unfold vOk inB at h;rw[Bool.or_eq_true,decide_eq_true_eq,beq_iff_eq]at h;exact q1p (by omega)
theorem q1B{zs:List Int}{most:Int}(hm:most=1∨most=2)(h:vf zs most=0):∃x∈v4,∃y∈v4,∃z∈v4,zs=[x,y,z]:=by
 have hl:=z0P h;obtain⟨x,y,z,rfl⟩:=z8S hl;unfold vf at h;rw[if_pos hl]at h;have ha:[x,y,z].all (vOk most)=true:=by
  by_cases hx:[x,y,z].all (vOk most)=true
  ·exact hx
  ·rw[if_neg hx]at h;simp at h
 simp only[List.all_cons,List.all_nil,Bool.and_true,Bool.and_eq_true]at ha;exact⟨x,z7P hm ha.1,y,z7P hm ha.2.1,z,z7P hm ha.2.2,rfl⟩
theorem q26{zs:List Int}{m:Int}(h:pfC zs m=0):vf zs 1=0∧z1Y zs m=true:=by
 unfold pfC at h;by_cases h0:vf zs 1=0
 ·rw[if_pos h0]at h;by_cases h1:z1Y zs m=true
  ·exact⟨h0,h1⟩
  ·rw[if_neg h1]at h;simp at h
 ·rw[if_neg h0]at h;exact absurd h h0
theorem q1C{n lo hi:Int}:inW n lo hi=true↔lo≤n∧n≤hi:=by simp[inW]
theorem z99{zs:List ActD}(h:z2q zs=0):∀z∈zs,actF z=0:=by
 induction zs with
 |nil=>simp
 |cons x r ih=>
  simp only[z2q]at h;split at h
  ·rename_i hx
   intro z hz;rcases List.mem_cons.1 hz with rfl|hz
   ·exact hx
   ·exact ih h z hz
  ·rename_i hx;exact absurd h hx
theorem z2Q{i s q:Int}{zs:List ActD}(h:txnF i s q zs=0):(1≤i∧i≤200)∧(1≤s∧s≤9)∧(1≤q∧q≤99)∧(1≤zs.length∧zs.length≤4)∧∀z∈zs,actF z=0:=by
 unfold txnF at h;split at h
 ·simp at h
 ·rename_i h1
  split at h
  ·simp at h
  ·rename_i h2
   simp only[not_or,Bool.not_eq_false,q1C]at h1;exact⟨h1.1,h1.2.1,h1.2.2,by omega,z99 h⟩
theorem Box4.cells{w:World}{b o:Nat}{x0 x1 x2 x3:Value}(h:Box4 w b o x0 x1 x2 x3):b<w.heap.size:=World.block_lt_of_cell? w ⟨b,o,none⟩ h.c0
structure Box2 (w:World) (b:Nat) (x y:Value):Prop where
 lt:b<w.heap.size
 c0:w.cell? ⟨b,0,none⟩=some x
 c1:w.cell? ⟨b,1,none⟩=some y
 f0:w.frozen? ⟨b,0,none⟩=false
 f1:w.frozen? ⟨b,1,none⟩=false
theorem Box2.below{w w':World}{b:Nat}{x y:Value}(h:Box2 w b x y)(hb:Below w.heap.size w w'):Box2 w' b x y:=
 ⟨Nat.lt_of_lt_of_le h.lt hb.size,by rw[hb.cell (p:=⟨b,0,none⟩) h.lt];exact h.c0,by rw[hb.cell (p:=⟨b,1,none⟩) h.lt];exact h.c1,by rw[hb.frozen (p:=⟨b,0,none⟩) h.lt];exact h.f0,by rw[hb.frozen (p:=⟨b,1,none⟩) h.lt];exact h.f1⟩
def TxnD.F(d:TxnD):Int:=txnF d.id d.session d.seq d.acts
def allF:List TxnD→Int
 |[]=>0
 |d::r=>if d.F=0 then allF r else d.F
def z7x(ds:List TxnD):Int:=if 60<ds.length then 2 else allF ds
def idsR(ds:List TxnD):List Int:=if z7x ds=0 then ds.map TxnD.id else []
def idsL(ds:List TxnD)(k:Nat):List Int:=(ds.take k).map TxnD.id
theorem z6N(ds:List TxnD)(k:Nat)(h:k<ds.length):idsL ds (k+1)=idsL ds k++[(ds.getD k z0l).id]:=by
 have e:ds.getD k z0l=ds[k]:=by simp[List.getD,h]
 rw[idsL,idsL,List.take_succ_eq_append_getElem h,e];simp only[List.map_append,List.map_cons,List.map_nil]
theorem z4t(ds:List TxnD)(k:Nat)(h:k≤ds.length):(idsL ds k).length=k:=by simp[idsL];omega
theorem q27(ds:List TxnD):(idsR ds).length≤ds.length:=by
 unfold idsR;split<;>simp
theorem z5s(ds:List TxnD):∀k,(∀j,j<k→(ds.getD j z0l).F=0)→k<ds.length→(ds.getD k z0l).F≠0→allF ds=(ds.getD k z0l).F:=by
 induction ds with
 |nil=>intro k _ h;simp at h
 |cons x r ih=>
  intro k h0 hk hne
  cases k with
  |zero=>simp[List.getD]at hne⊢;simp[allF,hne]
  |succ k=>
   have hx:x.F=0:=by simpa[List.getD]using h0 0 (by omega)
   have:=ih k (fun j hj=>by simpa[List.getD]using h0 (j+1) (by omega)) (by simpa using hk) (by simpa[List.getD]using hne);simp only[allF,hx,if_true];rw[this];simp[List.getD]
theorem z6O(ds:List TxnD)(h:∀j,j<ds.length→(ds.getD j z0l).F=0):allF ds=0:=by
 induction ds with
 |nil=>rfl
 |cons x r ih=>
  have hx:x.F=0:=by simpa[List.getD]using h 0 (by simp)
  simp only[allF,hx,if_true];exact ih (fun j hj=>by simpa[List.getD]using h (j+1) (by simpa using hj))
theorem TxnsAt.box{w:World}{b off i:Nat}{z:TxnD}{aa:Option Addr}{cc:Nat}(h0:w.cell? ⟨b,off+i*4,none⟩=some (.int .i64 z.id))(h1:w.cell? ⟨b,off+i*4+1,none⟩=some (.int .i64 z.session))(h2:w.cell? ⟨b,off+i*4+2,none⟩=some (.int .i64 z.seq))
  (h3:w.cell? ⟨b,off+i*4+3,none⟩=some (.slice aa z.acts.length cc)):Box4 w b (off+i*4) (.int .i64 z.id) (.int .i64 z.session) (.int .i64 z.seq) (.slice aa z.acts.length cc):=⟨h0,h1,h2,h3⟩
theorem q0a(v:Value)(ds:List TxnD)(w:World)(h:TxnsAt w v ds)(hl:ds.length≤60):
  Calls Tryz.prog 129 #[v] w fun e w'=>∃b c,e=.returned (.slice b (ds.map TxnD.id).length c)∧w'.ownsRow w.heap.size 2 1 (.slice b (ds.map TxnD.id).length c) (ds.map TxnD.id).length ((ds.map TxnD.id).map (Value.int .i64))∧Below w.heap.size w w':=by
 obtain⟨a,cap,rfl⟩:=h.shape;obtain⟨i0,hi,N,O,T⟩:=info_parts z5G;go_enter Tryz.func129,Tryz.ntmps129
 go_wp2
 go_loopw[3,4] (fun v j wr=>∃k:Nat,k≤ds.length∧j=.int .i64 k∧wr.ownsRow w.heap.size 2 1 v (idsL ds k).length ((idsL ds k).map (Value.int .i64))∧Below w.heap.size w wr) (fun _ j _=>ds.length-(intOf j).toNat)
 case atStart=>exact⟨0,Nat.zero_le _,rfl,by first|exact World.ownsRow_lit w #[] 0 (Nat.le_refl _) (by decide) rfl|(simp[idsL];exact World.ownsRow_lit w #[] 0 (Nat.le_refl _) (by decide) rfl),by go_grown⟩
 case round=>
  obtain⟨k,hk,rfl,ho,hb⟩:=hrel;have M:=hb.size;have L:(idsL ds k).length≤60:=by rw[z4t ds k hk];omega
  obtain⟨a1,c1,rfl⟩:=z0g ho;by_cases C:k<ds.length
  ·have E:Hid (idsL ds (k+1)=idsL ds k++[(ds.getD k z0l).id]):=z6N ds k C;obtain⟨b,V,aa,cc,rfl,U,I,_⟩:=(h.below hb).at k C;generalize (ds.getD k z0l).id=z at I E;have y:Below w.heap.size wr (wr.alloc (.cells #[.int .i64 z] 2)):=(Below.refl _ _).alloc M _;have D:=ho.alloc (.cells #[.int .i64 z] 2)
   go_wp2_with (at_builtin;refine wpList_append_own _ rfl _ _ 42 rfl w.heap.size 2 i0 (.int .i64 0) 1 8 Tryz.underlying42 hi N O T rfl (by decide) _ (idsL ds k).length ((idsL ds k).map (Value.int .i64)) rfl D ⟨wr.heap.size,0,none⟩ 1 1 [.int .i64 z] rfl rfl ?c1 ?c2 ?c3 ?c4 ?c5 ?_)
   all_goals try
    (case c1=>intro j u hj;match j,hj with|0,hj=>simp at hj;subst hj;simp[Addr.add])
   all_goals try(case c2=>first|rfl|(intro u hu;simp at hu;subst hu;rfl))
   all_goals try(case c3=>unfold maxLen;omega)
   all_goals try(case c4=>omega)
   all_goals try(case c5=>first|omega|(simp;omega))
   intro v' w2 x d _;obtain⟨a2,c2,rfl⟩:=z0g x;have A:Below w.heap.size wr w2:=y.grown d (by simp;omega) (fun j hj=>(ho.lt j hj).1);clear y d D ho;have R:Hid (w2.ownsRow w.heap.size 2 1 (.slice a2 ((idsL ds k).length+1) c2) ((idsL ds k).length+1) ((idsL ds k++[z]).map (Value.int .i64))∧Below w.heap.size w w2):=⟨by simpa using x,hb.trans A⟩
   clear x A
   go_wp2
   go_roundw
   case rel=>
    refine⟨k+1,by omega,by go_num,?_,R.out.2⟩;rw[E.out];simpa using R.out.1
   case measure=>simp[intOf];omega
  ·have J:k=ds.length:=by omega
   subst J;have e:idsL ds ds.length=ds.map TxnD.id:=by simp[idsL]
   rw[e]at ho;clear L
   go_wp2
   go_ret;rw[e];exact⟨_,_,rfl,ho,hb⟩
theorem q1D{ds:List TxnD}(h:z7x ds=0):ds.length≤60:=by
 unfold z7x at h;split at h
 ·simp at h
 ·omega
theorem z5R(v:Value)(ds:List TxnD)(w:World)(h:TxnsAt w v ds)(hl:ds.length+z47 ds≤1048576):
  Calls Tryz.prog 169 #[v] w fun e w'=>∃b c,e=.returned (.agg #[.int .i64 (z7x ds),.slice b (idsR ds).length c])∧
   w'.ownsRow w.heap.size 2 1 (.slice b (idsR ds).length c) (idsR ds).length ((idsR ds).map (Value.int .i64))∧Below w.heap.size w w':=by
 obtain⟨a,cap,rfl⟩:=h.shape;by_cases Y:60<ds.length
 ·have e1:z7x ds=2:=if_pos Y;have e2:idsR ds=[]:=if_neg (by rw[e1];decide);rw[e1,e2];clear e1 e2;go_enter Tryz.func169,Tryz.ntmps169
  go_wp2
  exact bodyPost_ret (v:=.agg #[.int .i64 2,.slice none 0 0]) (by simp[results,Tryz.results169,go_sem]) rfl ⟨_,_,rfl,World.ownsRow_nil _ _ _ _,by go_grown⟩
 ·have e1:z7x ds=allF ds:=if_neg Y;have O:Box2 (w.alloc (.cells #[.int .i64 0,.slice none 0 0] 261)) w.heap.size (.int .i64 0) (.slice none 0 0):=⟨by simp,by simp,by simp,by simp,by simp⟩
  have J:Below w.heap.size w (w.alloc (.cells #[.int .i64 0,.slice none 0 0] 261)):=by go_grown
  obtain⟨i0,hi,al,am,an⟩:=info_parts z5G;go_enter Tryz.func169,Tryz.ntmps169
  go_wp2
  generalize w.alloc (.cells #[.int .i64 0,.slice none 0 0] 261)=W at O J;have aq:=O.lt;go_loopw[3,13] (fun v j wr=>∃k:Nat,k≤ds.length∧j=.int .i64 k∧wr.ownsRow W.heap.size 2 1 v (idsL ds k).length ((idsL ds k).map (Value.int .i64))∧Below W.heap.size W wr∧Hid (∀j,j<k→(ds.getD j z0l).F=0)) (fun _ j _=>ds.length-(intOf j).toNat)
  case atStart=>exact⟨0,Nat.zero_le _,rfl,World.ownsRow_nil _ _ _ _,Below.refl _ _,fun j hj=>absurd hj (Nat.not_lt_zero _)⟩
  case round=>
   obtain⟨k,hk,rfl,ho,hb,HA⟩:=hrel;have ak:=hb.size;have ai:(idsL ds k).length≤60:=by rw[z4t ds k hk];omega
   obtain⟨a1,c1,rfl⟩:=z0g ho;by_cases T:k<ds.length
   ·obtain⟨b,ar,aa,cc,rfl,ao,A,C,D,I,hA⟩:=(h.below (z0o J hb)).at k T;have U:(ds.getD k z0l).acts.length≤z47 ds:=z08 (by simp[List.getD,T]);have d:=fun w h=>z11 (ds.getD k z0l).id (ds.getD k z0l).session (ds.getD k z0l).seq aa cc (ds.getD k z0l).acts w h (by omega)
    change∀w h,Calls _ _ _ _ fun e w'=>e=.returned (.int .i64 ((ds.getD k z0l).F))∧_ at d
    by_cases hF:(ds.getD k z0l).F=0
    ·have HB:Hid (∀j,j<k+1→(ds.getD j z0l).F=0):=by
      intro j hj;by_cases ag:j=k
      ·subst ag;exact hF
      ·exact HA.out j (by omega)
     have af:Hid (idsL ds (k+1)=idsL ds k++[(ds.getD k z0l).id]):=z6N ds k T;rw[hF]at d;clear HA hF;generalize ds.getD k z0l=z at A C D I hA d af U;obtain⟨z0,z1,z2,zs⟩:=z;dsimp only at A C D I hA d U;have x:Below wr.heap.size wr (wr.alloc (.cells #[.int .i64 z0,.int .i64 z1,.int .i64 z2,.slice aa zs.length cc] 82)):=by go_grown
     have V:=Blk.new wr 82 #[.int .i64 z0,.int .i64 z1,.int .i64 z2,.slice aa zs.length cc]
     go_wp2_with fail
     generalize wr.alloc (.cells #[.int .i64 z0,.int .i64 z1,.int .i64 z2,.slice aa zs.length cc] 82)=w1 at x V;refine(d _ (hA.below x)).mono ?_;rintro e w2 ⟨rfl,y⟩;replace x:=x.trans (y.mono x.size);have p0:=(V.below y).cell 0 _ rfl;have X:=z0d ho x;have ap:=x.size;clear y V d hA A C D I;have Z:Below W.heap.size w2 (w2.alloc (.cells #[.int .i64 z0] 2)):=(Below.refl _ _).alloc (by omega) _;have ae:=X.alloc (.cells #[.int .i64 z0] 2)
     go_wp2_with (at_builtin;refine wpList_append_own _ rfl _ _ 42 rfl W.heap.size 2 i0 (.int .i64 0) 1 8 Tryz.underlying42 hi al am an rfl (by decide) _ (idsL ds k).length ((idsL ds k).map (Value.int .i64)) rfl ae ⟨w2.heap.size,0,none⟩ 1 1 [.int .i64 z0] rfl rfl ?c1 ?c2 ?c3 ?c4 ?c5 ?_)
     all_goals try
      (case c1=>intro j u hj;match j,hj with|0,hj=>simp at hj;subst hj;simp[Addr.add])
     all_goals try(case c2=>first|rfl|(intro u hu;simp at hu;subst hu;rfl))
     all_goals try(case c3=>unfold maxLen;omega)
     all_goals try(case c4=>omega)
     all_goals try(case c5=>first|omega|(simp;omega))
     intro v' w3 N M _;obtain⟨a2,c2,rfl⟩:=z0g N;have ab:Below W.heap.size w2 w3:=Z.grown M (by simp;omega) (fun j hj=>(X.lt j hj).1);have R:Hid (w3.ownsRow W.heap.size 2 1 (.slice a2 ((idsL ds k).length+1) c2) ((idsL ds k).length+1) ((idsL ds k++[z0]).map (Value.int .i64))∧Below W.heap.size W w3):=⟨by simpa using N,(hb.trans (x.mono ak)).trans ab⟩
     clear Z M ae ho N ab X x p0
     go_wp2
     go_roundw
     case rel=>
      refine⟨k+1,by omega,by go_num,?_,R.out.2,HB⟩;rw[af.out];simpa using R.out.1
     case measure=>simp[intOf];omega
    ·have E:Hid (allF ds=(ds.getD k z0l).F):=z5s ds k HA.out T hF;have aj:((ds.getD k z0l).F !=0)=true:=by simpa using hF
     have E2:Hid (idsR ds=[]):=if_neg (by rw[e1,E.out];exact hF);clear HA hF;generalize (ds.getD k z0l).F=r at d E aj;generalize ds.getD k z0l=z at A C D I hA d U;obtain⟨z0,z1,z2,zs⟩:=z;dsimp only at A C D I hA d U;have x:Below wr.heap.size wr (wr.alloc (.cells #[.int .i64 z0,.int .i64 z1,.int .i64 z2,.slice aa zs.length cc] 82)):=by go_grown
     have E1:Hid (z7x ds=allF ds):=e1;clear e1
     go_wp2_with fail
     generalize wr.alloc (.cells #[.int .i64 z0,.int .i64 z1,.int .i64 z2,.slice aa zs.length cc] 82)=w1 at x;refine(d _ (hA.below x)).mono ?_;rintro e w2 ⟨rfl,y⟩;obtain⟨ad,q0,q1,g0,g1⟩:=((O.below hb).below x).below y;clear d hA A C D I ho
     go_wp2
     refine bodyPost_ret (v:=.agg #[.int .i64 r,.slice none 0 0]) (by simp[results,Tryz.results169,go_sem,q0,q1]) rfl ?_;rw[E1.out,E.out,E2.out];refine⟨_,_,rfl,World.ownsRow_nil _ _ _ _,?_⟩;repeat' (refine Below.setCell ?_ (by dsimp only;omega) _)
     exact z0o (z0o (z0o J hb) x) y
   ·have ah:k=ds.length:=by omega
    subst ah;have E:Hid (z7x ds=0):=e1.trans (z6O ds HA.out);have E2:Hid (idsR ds=idsL ds ds.length):=by
     show _=_;rw[show idsR ds=ds.map TxnD.id from if_pos E.out];simp[idsL]
    clear HA e1;obtain⟨ad,q0,q1,g0,g1⟩:=O.below hb;generalize idsL ds ds.length=L at ho E2 ai
    go_wp2
    refine bodyPost_ret (v:=.agg #[.int .i64 0,.slice a1 L.length c1]) (by simp[results,Tryz.results169,go_sem,q0,q1]) rfl ?_;rw[E.out,E2.out];refine⟨_,_,rfl,?_,?_⟩
    ·refine z0p (base:=W.heap.size) ?_ J.size;repeat' (refine ownsRow_setCell_below ?_ (by dsimp only;omega) _)
     exact ho
    ·repeat' (refine Below.setCell ?_ (by dsimp only;omega) _)
     exact z0o J hb
def idxN:List Int→Int→Nat
 |[],_=>0
 |y::r,x=>if y=x then 0 else idxN r x+1
theorem q28(L:List Int)(x:Int):∀k,(∀j,j<k→L.getD j 0≠x)→k<L.length→L.getD k 0=x→idxN L x=k:=by
 induction L with
 |nil=>intro k _ h;simp at h
 |cons y r ih=>
  intro k h0 hk he
  cases k with
  |zero=>simp[List.getD]at he;simp[idxN,he]
  |succ k=>
   have hy:y≠x:=by simpa[List.getD]using h0 0 (by omega)
   simp only[idxN,hy,if_false];rw[ih k (fun j hj=>by simpa[List.getD]using h0 (j+1) (by omega)) (by simpa using hk) (by simpa[List.getD]using he)]
theorem q0b(L:List Int)(x:Int)(h:∀j,j<L.length→L.getD j 0≠x):idxN L x=L.length:=by
 induction L with
 |nil=>rfl
 |cons y r ih=>
  have hy:y≠x:=by simpa[List.getD]using h 0 (by simp)
  simp only[idxN,hy,if_false,List.length_cons];rw[ih (fun j hj=>by simpa[List.getD]using h (j+1) (by simpa using hj))]
def idxI(L:List Int)(x:Int):Int:=if idxN L x<L.length then(idxN L x:Int)else -1
theorem z87(a:Option Addr)(cap:Nat)(L:List Int)(x:Int)(w:World)(h:Row .i64 w a L)(hl:L.length≤1048576):
  Calls Tryz.prog 130 #[.slice a L.length cap,.int .i64 x] w fun e w'=>e=.returned (.int .i64 (idxI L x))∧w'=w:=by
 go_enter Tryz.func130,Tryz.ntmps130
 go_wp2
 go_loop[5] (fun j=>∃k:Nat,k≤L.length∧j=.int .i64 k∧Hid (∀j,j<k→L.getD j 0≠x)) (fun j=>L.length-(intOf j).toNat)
 case atStart=>exact⟨0,Nat.zero_le _,rfl,fun j hj=>absurd hj (Nat.not_lt_zero _)⟩
 case round=>
  obtain⟨k,hk,rfl,HA⟩:=hrel;by_cases hlt:k<L.length
  ·obtain⟨b,off,rfl,hbs,hc⟩:=h k hlt;by_cases he:L.getD k 0=x
   ·have E:Hid (idxI L x=(k:Int)):=by
     show _=_;rw[idxI,q28 L x k HA.out hlt he,if_pos hlt]
    have hee:(L.getD k 0==x)=true:=by simpa using he
    clear HA he;generalize L.getD k 0=z at hc hee
    go_wp2
    go_ret;rw[E.out];exact⟨rfl,rfl⟩
   ·have HB:Hid (∀j,j<k+1→L.getD j 0≠x):=by
     intro j hj;by_cases hjk:j=k
     ·subst hjk;exact he
     ·exact HA.out j (by omega)
    have hee:(L.getD k 0==x)=false:=by simpa using he
    clear HA he;generalize L.getD k 0=z at hc hee
    go_wp2
    go_round
    case rel=>exact⟨k+1,by omega,by go_num,HB⟩
    case measure=>simp[intOf];omega
  ·have hkl:k=L.length:=by omega
   subst hkl;have E:Hid (idxI L x=-1):=by
    show _=_;rw[idxI,q0b L x HA.out,if_neg (Nat.lt_irrefl _)]
   clear HA
   go_wp2
   go_ret;rw[E.out];exact⟨rfl,rfl⟩
theorem z14(zs:List ActD):∀u∈z0q zs,u.oneCell'=true:=by
 intro u hu;simp only[z0q,List.mem_flatMap,ActD.cells,List.mem_cons,List.not_mem_nil,or_false]at hu;obtain⟨z,_,rfl|rfl|rfl⟩:=hu<;>rfl
theorem z2R{w:World}{b off:Nat}{xs:List Value}(h:Lies w (some ⟨b,off,none⟩) xs):∀j u,xs[j]?=some u→w.cell? ((⟨b,off,none⟩:Addr).add j)=some u:=by
 intro j u hj;rcases h with rfl|⟨b',off',e,_,hc⟩
 ·simp at hj
 ·simp only[Option.some.injEq,Addr.mk.injEq,and_true]at e;obtain⟨rfl,rfl⟩:=e;rw[Addr.add_lit];exact hc j u hj
theorem z5t(i s q:Int)(b d cap:Nat)(zs:List ActD)(w:World)(h:ActRow w (some ⟨b,d,none⟩) zs)(h0:0<zs.length)(hl:zs.length≤1048576):
  Calls Tryz.prog 32 #[.agg #[.int .i64 i,.int .i64 s,.int .i64 q,.slice (some ⟨b,d,none⟩) zs.length cap]] w fun e w'=>∃a c,e=.returned (.agg #[.int .i64 i,.int .i64 s,.int .i64 q,.slice a zs.length c])∧
   w'.ownsRow w.heap.size 118 3 (.slice a zs.length c) zs.length (z0q zs)∧Below w.heap.size w w':=by
 obtain⟨i0,hi,D,E,I⟩:=info_parts z4g;have hs:=z2R (Lies.below h (w':=((w.alloc (.cells #[.int .i64 i,.int .i64 s,.int .i64 q,.slice (some ⟨b,d,none⟩) zs.length cap] 82)).alloc (.cells #[.int .i64 0,.int .i64 0,.int .i64 0,.slice none 0 0] 82)).alloc (.cells #[] 118)) (by go_grown));have C:=z0r zs;have ho:=World.ownsRow_lit (e:=118) (size:=3) ((w.alloc (.cells #[.int .i64 i,.int .i64 s,.int .i64 q,.slice (some ⟨b,d,none⟩) zs.length cap] 82)).alloc (.cells #[.int .i64 0,.int .i64 0,.int .i64 0,.slice none 0 0] 82)) #[] 0 (Nat.le_refl _) (by decide) rfl;have z:Below w.heap.size w (((w.alloc (.cells #[.int .i64 i,.int .i64 s,.int .i64 q,.slice (some ⟨b,d,none⟩) zs.length cap] 82)).alloc (.cells #[.int .i64 0,.int .i64 0,.int .i64 0,.slice none 0 0] 82)).alloc (.cells #[] 118)):=by go_grown
 have B1:=(Blk.new w 82 #[.int .i64 i,.int .i64 s,.int .i64 q,.slice (some ⟨b,d,none⟩) zs.length cap]).below (w':=((w.alloc (.cells #[.int .i64 i,.int .i64 s,.int .i64 q,.slice (some ⟨b,d,none⟩) zs.length cap] 82)).alloc (.cells #[.int .i64 0,.int .i64 0,.int .i64 0,.slice none 0 0] 82)).alloc (.cells #[] 118)) (by go_grown);have B2:=(Blk.new (w.alloc (.cells #[.int .i64 i,.int .i64 s,.int .i64 q,.slice (some ⟨b,d,none⟩) zs.length cap] 82)) 82 #[.int .i64 0,.int .i64 0,.int .i64 0,.slice none 0 0]).below (w':=((w.alloc (.cells #[.int .i64 i,.int .i64 s,.int .i64 q,.slice (some ⟨b,d,none⟩) zs.length cap] 82)).alloc (.cells #[.int .i64 0,.int .i64 0,.int .i64 0,.slice none 0 0] 82)).alloc (.cells #[] 118)) (by go_grown);have HS:Hid (∀j u,(z0q zs)[j]?=some u→_):=hs;clear hs;simp only[World.size_alloc]at B2 ho;go_enter Tryz.func32,Tryz.ntmps32
 go_wp2_with (at_builtin;refine wpList_append_own _ rfl _ _ 80 rfl (w.heap.size+1+1) 118 i0 (.agg #[.int .i64 0,.int .i64 0,.int .i64 0]) 3 24 Tryz.underlying80 hi D E I rfl (by decide) _ 0 [] rfl ho ⟨b,d,none⟩ zs.length cap (z0q zs) rfl C HS.out ?c2 ?c3 ?c4 ?c5 ?_)
 all_goals try(case c2=>exact z14 zs)
 all_goals try(case c3=>unfold maxLen;omega)
 all_goals try(case c4=>omega)
 all_goals try(case c5=>simp)
 intro v' w2 y x _;obtain⟨a2,c2,rfl⟩:=z0g y;replace B1:=B1.grown x (by simp[Value.ownBlock]<;>omega);replace B2:=B2.grown x (by simp[Value.ownBlock]<;>omega);have A:Below w.heap.size w w2:=z.grown x (by simp;omega) (fun k hk=>by simp[Value.ownBlock]at hk;omega);have J:=B2.lt;obtain⟨p0,p1,p2,p3⟩:=B1.cel4;have pf:=B1.frozen 3;obtain⟨q0,q1,q2,q3⟩:=B2.cel4;obtain⟨f0,f1,f2,f3⟩:=B2.frz4;try simp only[Nat.zero_add]at y
 clear B1 B2 x HS ho z
 go_wp2
 refine bodyPost_ret (v:=.agg #[.int .i64 i,.int .i64 s,.int .i64 q,.slice a2 zs.length c2]) (by simp[results,Tryz.results32,go_sem,q0,q1,q2,q3]) rfl ⟨_,_,rfl,?_,?_⟩
 ·refine z0p (base:=w.heap.size+1+1) ?_ (by omega);repeat' (refine ownsRow_setCell_below ?_ (by dsimp only;omega) _)
  simpa using y
 ·repeat' (refine Below.setCell ?_ (by dsimp only;omega) _)
  exact A
theorem q0c(b y cap:Nat)(zs:List ActD)(w:World)(h:ActRow w (some ⟨b,y,none⟩) zs)(h0:0<zs.length)(hl:zs.length≤1048576):
  Calls Tryz.prog 125 #[.slice (some ⟨b,y,none⟩) zs.length cap] w fun e w'=>∃a c,e=.returned (.slice a zs.length c)∧
   w'.ownsRow w.heap.size 118 3 (.slice a zs.length c) zs.length (z0q zs)∧Below w.heap.size w w':=by
 obtain⟨i0,hi,C,D,E⟩:=info_parts z4g;have hs:=z2R (Lies.below h (w':=w.alloc (.cells #[] 118)) (by go_grown));have A:=z0r zs;have ho:=World.ownsRow_lit (e:=118) (size:=3) w #[] 0 (Nat.le_refl _) (by decide) rfl;have HS:Hid (∀j u,(z0q zs)[j]?=some u→_):=hs;clear hs;have I:∀w,(binOp .eql 80 (.slice (some ⟨b,y,none⟩) zs.length cap) (.slice none 0 0)).run Tryz.prog w=.ok (.bool false) w:=fun w=>by first|rfl|kernel_rfl|(simp only[binOp];simp[Op.equal,Op.maxDepth,Op.equalIn,run_underlying Tryz.underlying80])
 go_enter Tryz.func125,Tryz.ntmps125
 go_wp2_with (at_builtin;refine wpList_append_own _ rfl _ _ 80 rfl w.heap.size 118 i0 (.agg #[.int .i64 0,.int .i64 0,.int .i64 0]) 3 24 Tryz.underlying80 hi C D E rfl (by decide) _ 0 [] rfl ho ⟨b,y,none⟩ zs.length cap (z0q zs) rfl A HS.out ?c2 ?c3 ?c4 ?c5 ?_)
 all_goals try(case c2=>exact z14 zs)
 all_goals try(case c3=>unfold maxLen;omega)
 all_goals try(case c4=>omega)
 all_goals try(case c5=>simp)
 intro v' w2 x d _;obtain⟨a2,c2,rfl⟩:=z0g x;have z:Below w.heap.size w w2:=((Below.refl _ _).alloc (Nat.le_refl _) _).grown d (by simp) (fun k hk=>by simp[Value.ownBlock]at hk;omega);try simp only[Nat.zero_add]at x
 clear d HS ho
 go_wp2
 go_ret;exact⟨a2,c2,rfl,by simpa using x,z⟩
theorem z15(i s q:Int)(b off cap:Nat)(zs:List ActD)(w:World)(h:ActRow w (some ⟨b,off,none⟩) zs)(h0:0<zs.length)(hl:zs.length≤1048576):
  Calls Tryz.prog 95 #[.agg #[.int .i64 i,.int .i64 s,.int .i64 q,.slice (some ⟨b,off,none⟩) zs.length cap]] w fun e w'=>∃a c,e=.returned (.agg #[.int .i64 i,.int .i64 s,.int .i64 q,.slice a zs.length c])∧
   w'.ownsRow w.heap.size 118 3 (.slice a zs.length c) zs.length (z0q zs)∧Below w.heap.size w w':=by
 have hb1:Below w.heap.size w ((w.alloc (.cells #[.int .i64 i,.int .i64 s,.int .i64 q,.slice (some ⟨b,off,none⟩) zs.length cap] 82)).alloc (.cells #[.int .i64 0,.int .i64 0,.int .i64 0,.slice none 0 0] 82)):=by go_grown
 have B1:=(Blk.new w 82 #[.int .i64 i,.int .i64 s,.int .i64 q,.slice (some ⟨b,off,none⟩) zs.length cap]).below (w':=(w.alloc (.cells #[.int .i64 i,.int .i64 s,.int .i64 q,.slice (some ⟨b,off,none⟩) zs.length cap] 82)).alloc (.cells #[.int .i64 0,.int .i64 0,.int .i64 0,.slice none 0 0] 82)) (by go_grown);have B2:=Blk.new (w.alloc (.cells #[.int .i64 i,.int .i64 s,.int .i64 q,.slice (some ⟨b,off,none⟩) zs.length cap] 82)) 82 #[.int .i64 0,.int .i64 0,.int .i64 0,.slice none 0 0];simp only[World.size_alloc]at B2;go_enter Tryz.func95,Tryz.ntmps95
 go_wp2_with fail
 generalize (w.alloc (.cells #[.int .i64 i,.int .i64 s,.int .i64 q,.slice (some ⟨b,off,none⟩) zs.length cap] 82)).alloc (.cells #[.int .i64 0,.int .i64 0,.int .i64 0,.slice none 0 0] 82)=W at hb1 B1 B2;have hltW:=B2.lt;refine(q0c b off cap zs W (h.below hb1) h0 hl).mono ?_;rintro e w2 ⟨a2,c2,rfl,hown,hb⟩;replace B1:=B1.below hb;replace B2:=B2.below hb;obtain⟨p0,p1,p2,p3⟩:=B1.cel4;have pf:=B1.frozen 3;obtain⟨q0,q1,q2,q3⟩:=B2.cel4;obtain⟨f0,f1,f2,f3⟩:=B2.frz4;clear B1 B2
 go_wp2
 refine bodyPost_ret (v:=.agg #[.int .i64 i,.int .i64 s,.int .i64 q,.slice a2 zs.length c2]) (by simp[results,Tryz.results95,go_sem,q0,q1,q2,q3]) rfl ⟨_,_,rfl,?_,?_⟩
 ·refine z0p (base:=W.heap.size) ?_ (by omega);repeat' (refine ownsRow_setCell_below ?_ (by dsimp only;omega) _)
  exact hown
 ·repeat' (refine Below.setCell ?_ (by dsimp only;omega) _)
  exact z0o hb1 hb
section
variable {P:Program} {ops:Array Oper} {Q:Exit→Act→World→Prop} {S:World→Prop}
theorem q1E(i:Nat)(d:Option Tmp)(v:Value)(fuel:Nat){F:Nat}{l:Array Bool}{a:Act}{w:World}(hF:F=fuel+1)(hs:Region.noSelect ops=true)
  (hd:(ops[i]?).map (·.dst)=some d) (hok:z3T ops [i] l=true) (hw:(ops[i]?).map (fun o=>Region.wanted o (yielded ops a.tmps))=some true)
  (hrun:∀u,S u→(ops[i]?).map (fun o=>(execOp a.eval o).run P u)=some (.ok (.value v) u)) (hS:S w)
  (h:wpAnyH P .any ops (NoPanic Q) S fuel (z3f [i] l) (a.put d v) w):wpAnyH P .any ops (NoPanic Q) S F l a w:=by
 subst hF
 cases ho:ops[i]? with
 |none=>rw[ho]at hd;simp at hd
 |some o=>
  rw[ho]at hd hw hrun;simp only[Option.map_some,Option.some.injEq]at hd hw hrun;subst hd;simp only[z3T,Bool.and_eq_true,Bool.and_true]at hok;exact wpAnyH_take (i:=i) (oi:=o) (v:=v) ho hs hok.1 hok.2 (fun c a w=>z7B c a _ _ w) (Or.inl ⟨hw,fun u hu=>hrun u hu⟩) hS h
theorem z2u{K:Act→World→Prop}(i:Nat)(o:Oper){a:Act}{w:World}(ho:ops[i]?=some o)(h:wpList P ops (ThenGo Q K) [o] a w):wpOp P ops (NoPanic Q) i K a w:=by
 unfold wpOp;simp only[ho];simp only[wpList]at h;split at h
 ·rename_i hw
  rw[if_pos hw];rcases h with h|⟨h1,h2⟩
  ·left;unfold Oper.wp at h⊢;revert h;generalize (execOp a.eval o).run P w=r;intro h;unfold Oper.upon at h⊢;split at h
   ·exact h
   ·exact h
   ·exact h
   ·refine Calls.mono h fun e w' he=>?_
    cases e<;>exact he
   ·exact h
   ·exact h
   ·exact h
  ·exact Or.inr ⟨h1,h2⟩
 ·rename_i hw
  rw[if_neg hw];exact h
theorem q29{K:Act→World→Prop}(i:Nat)(d:Option Tmp)(f:Nat)(args:Array Value){a:Act}{w:World}
  (hd:(ops[i]?).map (·.dst)=some d) (hw:(ops[i]?).map (fun o=>Region.wanted o (yielded ops a.tmps))=some true)
  (hrun:(ops[i]?).map (fun o=>(execOp a.eval o).run P w)=some (.ok (.enter f args) w))
  (hc:Calls P f args w (fun e w'=>∃v,e=.returned v∧K (a.put d v) w')):wpOp P ops (NoPanic Q) i K a w:=by
 cases ho:ops[i]? with
 |none=>rw[ho]at hd;simp at hd
 |some o=>
  rw[ho]at hd hw hrun;simp only[Option.map_some,Option.some.injEq]at hd hw hrun;subst hd;unfold wpOp;simp only[ho,hw,if_true];refine .inl ?_;unfold Oper.wp;rw[hrun];simp only[Oper.upon];refine hc.mono fun e w' he=>?_
  obtain⟨v,rfl,h1⟩:=he;exact h1
theorem q3V(i j:Nat)(fuel:Nat){F:Nat}{l:Array Bool}{a:Act}{w:World}(hF:F=fuel+1)(hr:Region.ready .any ops l=[i,j])
  (hi:wpOp P ops (NoPanic Q) i (fun a' w'=>S w'∧wpAnyH P .any ops (NoPanic Q) S fuel (z3f [i] l) a' w') a w)
  (hj:wpOp P ops (NoPanic Q) j (fun a' w'=>S w'∧wpAnyH P .any ops (NoPanic Q) S fuel (z3f [j] l) a' w') a w):wpAnyH P .any ops (NoPanic Q) S F l a w:=by
 subst hF;refine wpAnyH_all hr (by simp) (fun k hk=>?_);simp only[List.mem_cons,List.not_mem_nil,or_false]at hk;rcases hk with rfl|rfl
 ·exact hi
 ·exact hj
theorem qta(i:Nat)(d:Option Tmp)(v:Value)(fuel:Nat){F:Nat}{l:Array Bool}{a:Act}{w:World}(h5:(F,Region.noSelect ops,(ops[i]?).map (·.dst),z3T ops [i] l,(ops[i]?).map (fun o=>Region.wanted o (yielded ops a.tmps)))=(fuel+1,true,some d,true,some true))
  (hrun:∀u,S u→(ops[i]?).map (fun o=>(execOp a.eval o).run P u)=some (.ok (.value v) u)) (hS:S w)
  (h:wpAnyH P .any ops (NoPanic Q) S fuel (z3f [i] l) (a.put d v) w):wpAnyH P .any ops (NoPanic Q) S F l a w:=by
 simp only[Prod.mk.injEq]at h5;exact q1E i d v fuel h5.1 h5.2.1 h5.2.2.1 h5.2.2.2.1 h5.2.2.2.2 hrun hS h
theorem opc{K:Act→World→Prop}(i:Nat)(d:Option Tmp)(f:Nat)(args:Array Value){a:Act}{w:World}
  (h3:((ops[i]?).map (·.dst),(ops[i]?).map (fun o=>Region.wanted o (yielded ops a.tmps)),(ops[i]?).map (fun o=>(execOp a.eval o).run P w))=(some d,some true,some (.ok (.enter f args) w)))
  (hc:Calls P f args w (fun e w'=>∃v,e=.returned v∧K (a.put d v) w')):wpOp P ops (NoPanic Q) i K a w:=by
 simp only[Prod.mk.injEq]at h3;exact q29 i d f args h3.1 h3.2.1 h3.2.2 hc
theorem twa(i j:Nat)(fuel:Nat){F:Nat}{l:Array Bool}{a:Act}{w:World}(h2:(F,Region.ready .any ops l)=(fuel+1,[i,j]))
  (hi:wpOp P ops (NoPanic Q) i (fun a' w'=>S w'∧wpAnyH P .any ops (NoPanic Q) S fuel (z3f [i] l) a' w') a w)
  (hj:wpOp P ops (NoPanic Q) j (fun a' w'=>S w'∧wpAnyH P .any ops (NoPanic Q) S fuel (z3f [j] l) a' w') a w):wpAnyH P .any ops (NoPanic Q) S F l a w:=by
 simp only[Prod.mk.injEq]at h2;exact q3V i j fuel h2.1 h2.2 hi hj
end
def batF(ds:List TxnD):Int:=if ds.length<1∨4<ds.length then 2 else if allF ds=0 then(if(ds.map TxnD.id).Nodup then 0 else 6)else allF ds
def z0H:List RoundE→Int
 |[]=>0
 |r::rs=>if vf r.rep 1=0 then(if vf r.pro 2=0 then z0H rs else vf r.pro 2)else vf r.rep 1
def shpF(x:InstE):Int:=
 if x.has=false∧0<x.batch.length then 1 else
 if x.has=true∧batF x.batch≠0 then batF x.batch else
 if x.rounds.length<1∨4<x.rounds.length then 2 else
 if z0H x.rounds=0 then vf x.dec 1 else z0H x.rounds
def z0D:RoundE:=⟨[],[]⟩
def repA(rs:List RoundE)(r n:Nat):Int:=(rs.getD r z0D).rep.getD n 0
def proA(rs:List RoundE)(r n:Nat):Int:=(rs.getD r z0D).pro.getD n 0
def proR(rs:List RoundE)(r n:Nat):Bool:=(proA rs r n==3)||((repA rs r n !=3) && mayP (rs.getD r z0D).rep (proA rs r n))
def q1q(rs:List RoundE)(r n:Nat):Bool:=(proA rs (r-1) n !=3) && mayR (rs.getD (r-1) z0D).pro (repA rs r n)
def repI(has:Bool)(rs:List RoundE)(r n:Nat):Bool:=if repA rs r n=1∧has=false then false else if repA rs r n=3∨r=0 then true else q1q rs r n
def sayM(has:Bool)(rs:List RoundE)(r n:Nat):Bool:=proR rs r n && (if r=0∨repA rs r n=3 then true else q1q rs r n && (has||(repA rs r n==0)||decide (0<cnt 7 (rs.getD (r-1) z0D).pro 1)))
def agr(rs:List RoundE)(v:Int):Bool:=rs.any (fun r=>decide (2≤cnt 7 r.pro v))
def endR(rs:List RoundE)(v:Int):Bool:=(v==3)||agr rs v
def z9M(has:Bool)(rs:List RoundE)(r:Nat):Bool:=(repI has rs r 0 && proR rs r 0) && (repI has rs r 1 && proR rs r 1) && (repI has rs r 2 && proR rs r 2)
def z8o(has:Bool)(rs:List RoundE)(r:Nat):Bool:=sayM has rs r 0 && sayM has rs r 1 && sayM has rs r 2
def z45(rs:List RoundE)(dec:List Int):Bool:=endR rs (dec.getD 0 0) && endR rs (dec.getD 1 0) && endR rs (dec.getD 2 0)
def q3G(x:InstE):Bool:=(List.range x.rounds.length).all (z9M x.has x.rounds) && z45 x.rounds x.dec
def q4v(x:InstE):Bool:=(x.has|| !decide (0<cnt 7 (x.rounds.getD 0 z0D).rep 1)) && (List.range x.rounds.length).all (z8o x.has x.rounds) && z45 x.rounds x.dec
def insF(x:InstE):Int:=if shpF x=0 then(if q3G x then 0 else 10)else shpF x
theorem q4O(zs:List Int)(v:Int):cnt 7 zs v=z9L (zs.getD 0 0==v) (zs.getD 1 0==v) (zs.getD 2 0==v):=by
 unfold cnt;rw[bit7.1,bit7.2.1,bit7.2.2];simp only[Bool.true_and]
theorem q1F(p q r:Bool):q2k (q2H p q r)=z9L p q r:=by cases p<;>cases q<;>cases r<;>decide+kernel
theorem q3a(zs:List Int)(v:Int):q2k (vot zs v)=cnt 7 zs v:=by
 rw[q4O];exact q1F _ _ _
theorem q1G(p q r:Bool):(0<z9L p q r)↔(p=true∨q=true∨r=true):=by cases p<;>cases q<;>cases r<;>decide
theorem z5S(zs:List Int)(v:Int):(0<cnt 7 zs v)↔∃n,n<3∧zs.getD n 0=v:=by
 rw[q4O,q1G];simp only[beq_iff_eq];constructor
 ·rintro(h|h|h)
  ·exact⟨0,by omega,h⟩
  ·exact⟨1,by omega,h⟩
  ·exact⟨2,by omega,h⟩
 ·rintro⟨n,hn,h⟩;have:n=0∨n=1∨n=2:=by omega
  rcases this with rfl|rfl|rfl
  ·exact Or.inl h
  ·exact Or.inr (Or.inl h)
  ·exact Or.inr (Or.inr h)
theorem q1H:∀x∈v4,∀y∈v4,∀z∈v4,mayP [x,y,z] 1=true→x=1∨y=1∨z=1:=by decide+kernel
theorem q0d{zs:List Int}(h:mayP zs 1=true):∃n,n<3∧zs.getD n 0=1:=by
 by_cases h0:vf zs 1=0
 ·obtain⟨x,hx,y,hy,z,hz,rfl⟩:=q1B (Or.inl rfl) h0;rcases q1H x hx y hy z hz h with h|h|h
  ·exact⟨0,by omega,h⟩
  ·exact⟨1,by omega,h⟩
  ·exact⟨2,by omega,h⟩
 ·have:mayP zs 1=false:=z8n _ (fun k=>by
   have hc:(pfC zs k==0)=false:=by
    rw[beq_eq_false_iff_ne];intro e;exact h0 (q26 e).1
   simp only [pB,hc,Bool.false_and]) 8
  rw[this]at h;exact absurd h (by decide)
theorem z1t{rs:List RoundE}(h:z0H rs=0)(r:Nat)(hr:r<rs.length):vf (rs.getD r z0D).rep 1=0∧vf (rs.getD r z0D).pro 2=0:=by
 induction rs generalizing r with
 |nil=>simp at hr
 |cons q t ih=>
  unfold z0H at h;by_cases h1:vf q.rep 1=0
  ·rw[if_pos h1]at h;by_cases h2:vf q.pro 2=0
   ·rw[if_pos h2]at h
    cases r with
    |zero=>exact⟨h1,h2⟩
    |succ r=>exact ih h r (by simpa using hr)
   ·rw[if_neg h2]at h;exact absurd h h2
  ·rw[if_neg h1]at h;exact absurd h h1
theorem q3b{zs:List Int}{most:Int}(h:vf zs most=0)(n:Nat)(hn:n<3):vOk most (zs.getD n 0)=true:=by
 have hl:=z0P h;unfold vf at h;rw[if_pos hl]at h;have ha:zs.all (vOk most)=true:=by
  by_cases hx:zs.all (vOk most)=true
  ·exact hx
  ·rw[if_neg hx]at h;simp at h
 have hg:zs.getD n 0=zs[n]:=by simp[List.getD,show n<zs.length by omega]
 rw[hg];exact List.all_eq_true.1 ha _ (List.getElem_mem _)
theorem vOk1{x:Int}(h:vOk 1 x=true):x=0∨x=1∨x=3:=by
 unfold vOk inB at h;rw[Bool.or_eq_true,decide_eq_true_eq,beq_iff_eq]at h;omega
theorem z5T(has:Bool)(rs:List RoundE)(r:Nat):z9M has rs r=true↔∀n,n<3→repI has rs r n=true∧proR rs r n=true:=by
 unfold z9M;simp only[Bool.and_eq_true];constructor
 ·rintro⟨⟨h0,h1⟩,h2⟩ n hn;have:n=0∨n=1∨n=2:=by omega
  rcases this with rfl|rfl|rfl
  ·exact h0
  ·exact h1
  ·exact h2
 ·intro h;exact⟨⟨h 0 (by omega),h 1 (by omega)⟩,h 2 (by omega)⟩
theorem z39(has:Bool)(rs:List RoundE)(r:Nat):z8o has rs r=true↔∀n,n<3→sayM has rs r n=true:=by
 unfold z8o;simp only[Bool.and_eq_true];constructor
 ·rintro⟨⟨h0,h1⟩,h2⟩ n hn;have:n=0∨n=1∨n=2:=by omega
  rcases this with rfl|rfl|rfl
  ·exact h0
  ·exact h1
  ·exact h2
 ·intro h;exact⟨⟨h 0 (by omega),h 1 (by omega)⟩,h 2 (by omega)⟩
theorem q3W{rs:List RoundE}(h0:¬0<cnt 7 (rs.getD 0 z0D).rep 1)(hM:∀r,r<rs.length→∀n,n<3→sayM false rs r n=true):∀r,r<rs.length→∀n,n<3→repA rs r n≠1:=by
 intro r;induction r with
 |zero=>
  intro _ n hn e;exact h0 ((z5S _ _).2 ⟨n,hn,e⟩)
 |succ r ih=>
  intro hr n hn e;have h:=hM (r+1) hr n hn;unfold sayM at h;rw[Bool.and_eq_true]at h;have h2:=h.2;rw[if_neg (by rw[e];omega),Bool.and_eq_true]at h2;have h3:=h2.2;rw[e]at h3;simp only[Bool.false_or,Nat.add_sub_cancel]at h3;have h4:0<cnt 7 (rs.getD r z0D).pro 1:=by simpa using h3
  obtain⟨m,hm,hp⟩:=(z5S _ _).1 h4;have h5:=hM r (by omega) m hm;unfold sayM at h5;rw[Bool.and_eq_true]at h5;have h6:=h5.1;unfold proR at h6;have hp':proA rs r m=1:=hp;rw[hp']at h6;simp only[Bool.or_eq_true,Bool.and_eq_true]at h6;rcases h6 with h6|h6
  ·exact absurd h6 (by decide)
  ·obtain⟨k,hk,hk1⟩:=q0d h6.2;exact ih (by omega) k hk hk1
theorem q1I{x:InstE}(hr:z0H x.rounds=0)(hl:0<x.rounds.length):q4v x=q3G x:=by
 unfold q4v q3G;rw[Bool.eq_iff_iff];simp only[Bool.and_eq_true,List.all_eq_true,List.mem_range,z5T,z39]
 cases hh:x.has with
 |true=>
  simp only[Bool.true_or,true_and];refine and_congr_left (fun _=>?_);refine forall_congr' (fun r=>forall_congr' (fun hr'=>forall_congr' (fun n=>forall_congr' (fun hn=>?_))));unfold sayM repI;rw[if_neg (show¬(repA x.rounds r n=1∧true=false) by simp)];simp only[Bool.true_or,Bool.and_true,Bool.and_eq_true];by_cases hc:repA x.rounds r n=3∨r=0
  ·rw[if_pos hc,if_pos hc.symm];exact and_comm
  ·rw[if_neg hc,if_neg (fun e=>hc e.symm)];exact and_comm
 |false=>
  simp only[Bool.false_or];constructor
  ·rintro⟨⟨h0,hM⟩,hE⟩;have h0':¬0<cnt 7 (x.rounds.getD 0 z0D).rep 1:=by simpa using h0
   have hno:=q3W h0' hM;refine⟨fun r hr' n hn=>?_,hE⟩;have h:=hM r hr' n hn;unfold sayM at h;rw[Bool.and_eq_true]at h;refine⟨?_,h.1⟩;unfold repI;rw[if_neg (fun e=>hno r hr' n hn e.1)];have h2:=h.2;by_cases hc:repA x.rounds r n=3∨r=0
   ·rw[if_pos hc]
   ·rw[if_neg hc];rw[if_neg (fun e=>hc e.symm),Bool.and_eq_true]at h2;exact h2.1
  ·rintro⟨hI,hE⟩;have hno:∀r,r<x.rounds.length→∀n,n<3→repA x.rounds r n≠1:=by
    intro r hr' n hn e;have h:=(hI r hr' n hn).1;unfold repI at h;rw[if_pos ⟨e,rfl⟩]at h;exact absurd h (by decide)
   refine⟨⟨?_,fun r hr' n hn=>?_⟩,hE⟩
   ·have:¬0<cnt 7 (x.rounds.getD 0 z0D).rep 1:=by
     intro h;obtain⟨n,hn,e⟩:=(z5S _ _).1 h;exact hno 0 hl n hn e
    simpa using this
   ·obtain⟨h1,h2⟩:=hI r hr' n hn;unfold sayM;rw[Bool.and_eq_true];refine⟨h2,?_⟩;unfold repI at h1;rw[if_neg (fun e=>hno r hr' n hn e.1)]at h1;by_cases hc:repA x.rounds r n=3∨r=0
    ·rw[if_pos hc.symm]
    ·rw[if_neg hc]at h1;rw[if_neg (fun e=>hc e.symm),Bool.and_eq_true];refine⟨h1,?_⟩;have hv:=vOk1 (q3b (z1t hr r hr').1 n hn);have h0:repA x.rounds r n=0:=by
      rcases hv with h|h|h
      ·exact h
      ·exact absurd h (hno r hr' n hn)
      ·exact absurd (Or.inl h) hc
     rw[h0];simp
def slA:Value→Option Addr
 | .slice a _ _=>a
 |_=>none
def slK:Value→Nat
 | .slice _ _ k=>k
 |_=>0
def TxnQ.p(q:TxnQ):TxnP:=⟨q.e,slA q.va,slK q.va⟩
theorem TxnQ.p_cells{w:World}{q:TxnQ}(h:actK.At w q.va q.acts):q.p.cells=txnK.cells q:=by
 obtain⟨a,c,e⟩:=h.shape;show [_,_,_,_]=[_,_,_,_]
 simp only[TxnP.sl,TxnQ.p,TxnQ.e,e,slA,slK]
theorem z6P{w:World}{v:Value}{ps:List TxnQ}(h:txnK.At w v ps):TxnsAt w v (ps.map TxnQ.e):=by
 obtain⟨a,cap,e,hL,hr⟩:=h;refine⟨a,cap,ps.map TxnQ.p,by rw[List.length_map];exact e,by simp only[List.map_map];rfl,?_,?_⟩
 ·have e2:z0M (ps.map TxnQ.p)=txnK.row ps:=by
   clear hL e;induction ps with
   |nil=>rfl
   |cons q r ih=>
    have h1:q.p.cells=txnK.cells q:=TxnQ.p_cells (hr q (by simp));have h2:=ih (fun p hp=>hr p (List.mem_cons_of_mem _ hp));show q.p.cells++z0M (r.map TxnQ.p)=txnK.cells q++txnK.row r;rw[h1,h2]
  rw[e2];exact hL
 ·intro p hp;obtain⟨q,hq,rfl⟩:=List.mem_map.1 hp;have h1:actK.At w q.va q.acts:=hr q hq;obtain⟨a',c',e',hl',_⟩:=h1;show ActRow w (slA q.va) q.acts;rw[e'];exact hl'
theorem q0e(ps:List TxnQ):z47 (ps.map TxnQ.e)=nmL TxnQ.n ps:=by
 simp only[z47,nmL,List.map_map];rfl
theorem q0f(L:List Int)(x:Int):idxN L x<L.length↔x∈L:=by
 induction L with
 |nil=>simp[idxN]
 |cons y r ih=>
  by_cases h:y=x
  ·simp[idxN,h]
  ·have:¬x=y:=fun e=>h e.symm
   simp[idxN,h,this,ih]
theorem q3c{L:List Int}{x:Int}(h:x∈L):0≤idxI L x:=by
 unfold idxI;rw[if_pos ((q0f L x).2 h)];omega
theorem q1J{L:List Int}{x:Int}(h:x∉L):idxI L x=-1:=by
 unfold idxI;rw[if_neg (fun e=>h ((q0f L x).1 e))]
theorem z88{L:List Int}{k:Nat}(h:(L.take k).Nodup)(hk:k<L.length)(hx:L.getD k 0∉L.take k):(L.take (k+1)).Nodup:=by
 have e:L.getD k 0=L[k]:=by simp[List.getD,hk]
 rw[e]at hx;rw[List.take_succ_eq_append_getElem hk,List.nodup_append];refine⟨h,by simp,fun a ha b hb e=>?_⟩;simp only[List.mem_singleton]at hb;subst hb e;exact hx ha
theorem q0g{L:List Int}{k:Nat}(hk:k<L.length)(hx:L.getD k 0∈L.take k):¬L.Nodup:=by
 intro h;have e:L.getD k 0=L[k]:=by simp[List.getD,hk]
 rw[e]at hx;have h2:(L.take (k+1)).Nodup:=List.Sublist.nodup (List.take_sublist _ _) h;rw[List.take_succ_eq_append_getElem hk,List.nodup_append]at h2;exact h2.2.2 _ hx _ (by simp) rfl
theorem Row.take6{k:IntKind}{w:World}{a:Option Addr}{zs:List Int}(h:Row k w a zs)(j:Nat):Row k w a (zs.take j):=by
 intro i hi;have hi2:i<j∧i<zs.length:=by rw[List.length_take]at hi;omega
 obtain⟨b,off,ha,hlt,hc⟩:=h i hi2.2;refine⟨b,off,ha,hlt,?_⟩;rw[hc];simp[List.getD,List.getElem?_take,hi2.1]
theorem z8p{w:World}{base e s n c:Nat}{a:Option Addr}{xs:List Value}(h:w.ownsRow base e s (.slice a n c) n xs):n≤c:=by
 rcases h.2 with⟨he,hn⟩|⟨g,cap,cur,he,_,_,hc,_⟩
 ·omega
 ·simp only[Value.slice.injEq,true_and]at he;omega
theorem q4D(b off n c k:Nat)(hk:k≤c)(w:World):(Instr.sliceAt 42 (.slice (some ⟨b,off,none⟩) n c) none (some (.int .i64 (k:Int))) none).run Tryz.prog w=.ok (.slice (some ⟨b,off,none⟩) k c) w:=by
 have hel:Tryz.prog.elem 42=2:=by kernel_rfl
 have hun:Tryz.prog.underlying 42=some (.slice (Tryz.prog.elem 42)):=by kernel_rfl
 have hsz:(sizeOf (Tryz.prog.elem 42)).run Tryz.prog w=.ok 1 w:=by rw[hel];kernel_rfl
 rw[run_sliceAt_slice (h:=hun),run_slice_h (ht:=hun) (kh:=.i64) (h:=(k:Int)) (h0:=by omega) (h2:=by omega),hsz];simp only[Result.andThen,sliced,Int.toNat_natCast];split
 ·rename_i h
  simp
 ·simp only[Option.map_some,Addr.add_lit,Nat.zero_mul,Nat.add_zero,Nat.sub_zero]
theorem z2S{ds:List TxnD}(h:ds.length<1∨4<ds.length):batF ds=2:=if_pos h
theorem z8q{ds:List TxnD}(h:¬(ds.length<1∨4<ds.length)):batF ds=if allF ds=0 then(if(ds.map TxnD.id).Nodup then 0 else 6)else allF ds:=if_neg h
theorem z7Q(v:Value)(ds:List TxnD)(w:World)(h:TxnsAt w v ds)(hl:ds.length+z47 ds≤1048576):
  Calls Tryz.prog 102 #[v] w fun e w'=>e=.returned (.int .i64 (batF ds))∧Below w.heap.size w w':=by
 obtain⟨a,cap,rfl⟩:=h.shape;by_cases Y:ds.length<1
 ·rw[z2S (Or.inl Y)];go_enter Tryz.func102,Tryz.ntmps102
  go_wp2
  go_ret;exact⟨rfl,Below.refl _ _⟩
 ·by_cases W:4<ds.length
  ·rw[z2S (Or.inr W)];go_enter Tryz.func102,Tryz.ntmps102
   go_wp2
   go_ret;exact⟨rfl,Below.refl _ _⟩
  ·have HB:Hid (batF ds=if allF ds=0 then(if(ds.map TxnD.id).Nodup then 0 else 6)else allF ds):=z8q (by omega);generalize batF ds=E at HB⊢;have ah:1≤ds.length:=by omega
   have X:ds.length≤4:=by omega
   clear Y W;go_enter Tryz.func102,Tryz.ntmps102
   go_wp2
   go_loop[3] (fun j=>∃k:Nat,k≤ds.length∧j=.int .i64 k∧Hid (∀j,j<k→(ds.getD j z0l).F=0)) (fun j=>ds.length-(intOf j).toNat)
   case atStart=>exact⟨0,Nat.zero_le _,rfl,fun j hj=>absurd hj (Nat.not_lt_zero _)⟩
   case round=>
    obtain⟨k,hk,rfl,HA⟩:=hrel;by_cases y:k<ds.length
    ·obtain⟨b,A,aa,cc,rfl,ad,O,T,U,V,hA⟩:=h.at k y;have aj:(ds.getD k z0l).acts.length≤z47 ds:=z08 (by simp[List.getD,y]);have c:=z4m b (A+k*4) _ _ _ aa cc _ w (TxnsAt.box O T U V) hA (by omega);change Calls _ _ _ _ fun e w'=>e=.returned (.int .i64 ((ds.getD k z0l).F))∧_ at c
     clear O T U V hA;by_cases hF:(ds.getD k z0l).F=0
     ·have ab:Hid (∀j,j<k+1→(ds.getD j z0l).F=0):=by
       intro j hj;by_cases ae:j=k
       ·subst ae;exact hF
       ·exact HA.out j (by omega)
      rw[hF]at c;clear HA hF
      go_wp2_with (go_at_call 107;refine c.mono ?_;rintro e w' ⟨rfl,rfl⟩)
      go_round
      case rel=>exact⟨k+1,by omega,by go_num,ab⟩
      case measure=>simp[intOf];omega
     ·have E2:Hid (E=(ds.getD k z0l).F):=by
       have e1:=z5s ds k HA.out y hF;have e2:=HB.out;rw[e1,if_neg hF]at e2;exact e2
      have J:((ds.getD k z0l).F !=0)=true:=by simpa using hF
      clear HA hF HB;generalize (ds.getD k z0l).F=r at c E2 J
      go_wp2_with (go_at_call 107;refine c.mono ?_;rintro e w' ⟨rfl,rfl⟩)
      go_ret;rw[E2.out];exact⟨rfl,Below.refl _ _⟩
    ·have I:k=ds.length:=by omega
     subst I;have E3:Hid (E=if(ds.map TxnD.id).Nodup then 0 else 6):=by
      have e2:=HB.out;rw[if_pos (z6O ds HA.out)]at e2;exact e2
     clear HA HB;have D:=q0a _ ds w h (by omega)
     go_wp2_with fail
     refine D.mono ?_;rintro e w1 ⟨ib,ic,rfl,ho,C⟩;have hR:=Row.own ho;have ag:=z8p ho;have ai:(ds.map TxnD.id).length≤4:=by simpa using X
     clear D ho;generalize ds.map TxnD.id=L at*
     go_wp2
     go_loopw[6] (fun j wr=>∃k:Nat,k≤L.length∧j=.int .i64 k∧Hid ((L.take k).Nodup)∧Below w1.heap.size w1 wr) (fun j _=>L.length-(intOf j).toNat)
     case atStart=>exact⟨0,Nat.zero_le _,rfl,show List.Nodup _ by simp,Below.refl _ _⟩
     case round=>
      obtain⟨k,hk,rfl,HA,hb⟩:=hrel;by_cases y:k<L.length
      ·obtain⟨b,A,rfl,ad,hc⟩:=(hR.below hb) k y;have N:(L.take k).length=k:=by simp;omega
       have hT:=(hR.below hb).take6 k;have HY:Hid (L.getD k 0∈L.take k→E=6):=fun hx=>by rw[E3.out,if_neg (q0g y hx)]
       have HN:Hid (L.getD k 0∉L.take k→(L.take (k+1)).Nodup):=fun hx=>z88 HA.out y hx
       have d:=fun w h=>z87 (some ⟨b,A,none⟩) ic (L.take k) (L.getD k 0) w h (by omega)
       rw[N]at d;clear HA N;have hI:L.getD k 0∈L.take k∨L.getD k 0∉L.take k:=Classical.em _;have HI:Hid ((L.getD k 0∈L.take k∧0≤idxI (L.take k) (L.getD k 0))∨(L.getD k 0∉L.take k∧idxI (L.take k) (L.getD k 0)=-1)):=hI.elim (fun h=>Or.inl ⟨h,q3c h⟩) (fun h=>Or.inr ⟨h,q1J h⟩);clear hI;generalize L.getD k 0=z at*;generalize idxI (L.take k) z=q at*;have k0:=z0a hc;clear hc;have hW:Below wr.heap.size wr wr.drew:=(Below.refl _ _).drew;have J:Nonempty (Lat wr):=⟨⟨wr,Below.refl _ _⟩⟩
       have af:(k:Int)≤(ic:Int):=by omega
       go_wp2_with fail
       refine z0b (S:=fun w'=>∃u:Lat wr,w'=u.val) (by kernel_rfl) ?_;refine sgr [(0,2)] 7 (by kernel_rfl) ⟨⟨_,hW⟩,rfl⟩ ?_;simp only[pkE];repeat go_big_quiet_step (fail)
       refine wpQuiet_nil ?_;have Z:=q4D b A L.length ic k (by omega);refine qta 2 (some 38) (.slice (some ⟨b,A,none⟩) k ic) 6 (by kernel_rfl) (fun u _=>?_) ⟨⟨_,hW⟩,rfl⟩ ?_
       ·show some (((Instr.sliceAt 42 (.slice (some ⟨b,A,none⟩) L.length ic) none (some (.int .i64 (k:Int))) none)>>=fun x=>pure (Next.value x):Sem Next).run Tryz.prog u)=_;rw[Sem.run_bind,Z u];rfl
       clear Z;simp only[Act.put,pjE];refine sgr [(3,4)] 2 (by kernel_rfl) ⟨⟨_,hW⟩,rfl⟩ ?_;simp only[pkE];repeat go_big_quiet_step (fail)
       refine wpQuiet_nil ?_;refine cla 7 (some 43) 130 #[.slice (some ⟨b,A,none⟩) k ic,.int .i64 z] 1 (by kernel_rfl) ?_;refine(d _ (hT.below hW)).mono ?_;rintro e w2 ⟨rfl,M⟩;replace M:=M.symm;subst M;refine⟨_,rfl,⟨⟨_,hW⟩,rfl⟩,?_⟩;simp only[Act.put,pjE];refine sgr [(8,1)] 0 (by kernel_rfl) ⟨⟨_,hW⟩,rfl⟩ ?_;simp only[pkE];repeat go_big_quiet_step (fail)
       refine wpQuiet_nil ?_;refine z0f (by kernel_rfl) ?_;replace hb:=hb.trans (hW.mono hb.size);clear k0 hW J d hT af;generalize wr.drew=wd at*;by_cases hq:0≤q
       ·have E5:Hid (E=6):=by
         rcases HI.out with h|h
         ·exact HY.out h.1
         ·omega
        clear HI HY HN E3
        go_wp2
        go_ret;exact⟨by rw[E5.out];rfl,C.trans (hb.mono C.size)⟩
       ·have R:Hid ((L.take (k+1)).Nodup):=by
         rcases HI.out with h|h
         ·omega
         ·exact HN.out h.1
        clear HI HY HN
        go_wp2
        go_roundw
        case rel=>exact⟨k+1,by omega,by go_num,R,hb⟩
        case measure=>simp[intOf];omega
      ·have I:k=L.length:=by omega
       subst I;rw[List.take_length]at HA;have E4:Hid (E=0):=by
        have:=E3.out;rw[if_pos HA.out]at this;exact this
       clear HA E3
       go_wp2
       go_ret;exact⟨by rw[E4.out];rfl,C.trans (hb.mono C.size)⟩
section
open Go.Sort Go.Shelf
def z89:Go.Shelf.Ren:=⟨fun|5=>170|8=>193|7=>192|19=>214|20=>215|10=>205|11=>206|12=>207|13=>208|14=>209|15=>210|16=>211|17=>212|18=>213|30=>227|31=>228|32=>229|33=>230|34=>231|35=>232|40=>238|n=>n,fun|23=>42|25=>2|3=>3|32=>207|22=>42|0=>0|44=>312|46=>297|4=>4|36=>305|35=>304|41=>309|5=>5|9=>9|53=>327|57=>331|63=>336|64=>337|n=>n,fun|n=>n⟩
theorem q0h:Go.Proofs.SlLaysM.n5 Tryz.prog z89:={
 mixed:=by kernel_rfl,
 f5:=⟨Tryz.f170.name,by decide,Tryz.func170.trans (congrArg some (by kernel_rfl))⟩,
 f7:=⟨Tryz.f192.name,by decide,Tryz.func192.trans (congrArg some (by kernel_rfl))⟩,
 f8:=Tryz.func193.trans (congrArg some (by kernel_rfl)),
 f10:=⟨Tryz.f205.name,by decide,Tryz.func205.trans (congrArg some (by kernel_rfl))⟩,
 f11:=⟨Tryz.f206.name,by decide,Tryz.func206.trans (congrArg some (by kernel_rfl))⟩,
 f12:=⟨Tryz.f207.name,by decide,Tryz.func207.trans (congrArg some (by kernel_rfl))⟩,
 f13:=⟨Tryz.f208.name,by decide,Tryz.func208.trans (congrArg some (by kernel_rfl))⟩,
 f14:=⟨Tryz.f209.name,by decide,Tryz.func209.trans (congrArg some (by kernel_rfl))⟩,
 f15:=⟨Tryz.f210.name,by decide,Tryz.func210.trans (congrArg some (by kernel_rfl))⟩,
 f16:=⟨Tryz.f211.name,by decide,Tryz.func211.trans (congrArg some (by kernel_rfl))⟩,
 f17:=⟨Tryz.f212.name,by decide,Tryz.func212.trans (congrArg some (by kernel_rfl))⟩,
 f18:=⟨Tryz.f213.name,by decide,Tryz.func213.trans (congrArg some (by kernel_rfl))⟩,
 f19:=Tryz.func214.trans (congrArg some (by kernel_rfl)),
 f20:=Tryz.func215.trans (congrArg some (by kernel_rfl)),
 f30:=⟨Tryz.f227.name,by decide,Tryz.func227.trans (congrArg some (by kernel_rfl))⟩,
 f31:=Tryz.func228.trans (congrArg some (by kernel_rfl)),
 f32:=Tryz.func229.trans (congrArg some (by kernel_rfl)),
 f33:=⟨Tryz.f230.name,by decide,Tryz.func230.trans (congrArg some (by kernel_rfl))⟩,
 f34:=⟨Tryz.f231.name,by decide,Tryz.func231.trans (congrArg some (by kernel_rfl))⟩,
 f35:=⟨Tryz.f232.name,by decide,Tryz.func232.trans (congrArg some (by kernel_rfl))⟩,
 f40:=⟨Tryz.f238.name,by decide,Tryz.func238.trans (congrArg some (by kernel_rfl))⟩,
 t0:=Tryz.underlying0,
 a0:=Tryz.isAgg0,
 z0:=Tryz.sizeOf0,
 v0:=Tryz.zeroValue0,
 t3:=Tryz.underlying3,
 a3:=Tryz.isAgg3,
 z3:=Tryz.sizeOf3,
 v3:=Tryz.zeroValue3,
 t4:=Tryz.underlying4,
 a4:=Tryz.isAgg4,
 z4:=Tryz.sizeOf4,
 v4:=Tryz.zeroValue4,
 t5:=Tryz.underlying5,
 a5:=Tryz.isAgg5,
 z5:=Tryz.sizeOf5,
 v5:=Tryz.zeroValue5,
 t9:=Tryz.underlying9,
 a9:=Tryz.isAgg9,
 z9:=Tryz.sizeOf9,
 v9:=Tryz.zeroValue9,
 t22:=Tryz.underlying42,
 a22:=Tryz.isAgg42,
 z22:=Tryz.sizeOf42,
 v22:=Tryz.zeroValue42,
 t23:=Tryz.underlying42,
 a23:=Tryz.isAgg42,
 z23:=Tryz.sizeOf42,
 v23:=Tryz.zeroValue42,
 t25:=Tryz.underlying2,
 a25:=Tryz.isAgg2,
 z25:=Tryz.sizeOf2,
 v25:=Tryz.zeroValue2,
 t32:=Tryz.underlying207,
 a32:=Tryz.isAgg207,
 z32:=Tryz.sizeOf207,
 v32:=Tryz.zeroValue207,
 t35:=Tryz.underlying304,
 a35:=Tryz.isAgg304,
 z35:=Tryz.sizeOf304,
 v35:=Tryz.zeroValue304,
 t36:=Tryz.underlying305,
 a36:=Tryz.isAgg305,
 z36:=Tryz.sizeOf305,
 v36:=Tryz.zeroValue305,
 t41:=Tryz.underlying309,
 a41:=Tryz.isAgg309,
 z41:=Tryz.sizeOf309,
 v41:=Tryz.zeroValue309,
 t44:=Tryz.underlying312,
 a44:=Tryz.isAgg312,
 z44:=Tryz.sizeOf312,
 v44:=Tryz.zeroValue312,
 t46:=Tryz.underlying297,
 a46:=Tryz.isAgg297,
 z46:=Tryz.sizeOf297,
 v46:=Tryz.zeroValue297,
 t53:=Tryz.underlying327,
 a53:=Tryz.isAgg327,
 z53:=Tryz.sizeOf327,
 v53:=Tryz.zeroValue327,
 t57:=Tryz.underlying331,
 a57:=Tryz.isAgg331,
 z57:=Tryz.sizeOf331,
 v57:=Tryz.zeroValue331,
 t63:=Tryz.underlying336,
 a63:=Tryz.isAgg336,
 z63:=Tryz.sizeOf336,
 v63:=Tryz.zeroValue336,
 t64:=Tryz.underlying337,
 a64:=Tryz.isAgg337,
 z64:=Tryz.sizeOf337,
 v64:=Tryz.zeroValue337 }
def z9a:Go.Shelf.Ren:=⟨fun|43=>171|n=>n,fun|22=>42|23=>2|3=>3|4=>4|0=>0|n=>n,fun|n=>n⟩
theorem q3X:Go.Proofs.SlLaysN.n43 Tryz.prog z9a:={
 mixed:=by kernel_rfl,
 f43:=⟨Tryz.f171.name,by decide,Tryz.func171.trans (congrArg some (by kernel_rfl))⟩,
 t0:=Tryz.underlying0,
 a0:=Tryz.isAgg0,
 z0:=Tryz.sizeOf0,
 v0:=Tryz.zeroValue0,
 t3:=Tryz.underlying3,
 a3:=Tryz.isAgg3,
 z3:=Tryz.sizeOf3,
 v3:=Tryz.zeroValue3,
 t4:=Tryz.underlying4,
 a4:=Tryz.isAgg4,
 z4:=Tryz.sizeOf4,
 v4:=Tryz.zeroValue4,
 t22:=Tryz.underlying42,
 a22:=Tryz.isAgg42,
 z22:=Tryz.sizeOf42,
 v22:=Tryz.zeroValue42,
 t23:=Tryz.underlying2,
 a23:=Tryz.isAgg2,
 z23:=Tryz.sizeOf2,
 v23:=Tryz.zeroValue2,
 i23:=by kernel_rfl }
end
end Go.Proofs.YtljbililjlafcaaGreatDoor
