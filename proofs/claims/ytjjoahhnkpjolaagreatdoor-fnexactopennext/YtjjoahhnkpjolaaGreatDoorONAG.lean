import Derived.Test.YtjjoahhnkpjolaaGreatDoorONAF
set_option linter.unusedVariables false
set_option linter.unusedSimpArgs false
set_option maxRecDepth 100000
set_option maxHeartbeats 2000000
namespace Go.Proofs.YtjjoahhnkpjolaaGreatDoor
open Go.RowKit Go.BigFrame
open Nat renaming le_refl->F,zero_le->Q
open IntKind renaming i64->S
open Value renaming int->G
open Go.Proofs.Tryz
def q15(zs:List Int):Bool:=decide (0<cnt 7 zs 0) && decide (0<cnt 7 zs 1)
def chC(zs:List Int)(m c:Int):Int:=if vf zs 2=0 then(if inB c 0 1 then(if q15 zs then 1 else if z2y zs m then 0 else 10)else 3)else vf zs 2
def chD(z o:Int):Bool:=if 0<z then decide (2≤z)else decide (2≤o)
def chK(z o:Int):Bool:=!decide (0<z) && !decide (0<o)
def chV(z o c:Int):Int:=if 0<z then 0 else if 0<o then 1 else c
def cfD(zs:List Int)(m c:Int):Bool:=if chC zs m c=0 then chD (cnt m zs 0) (cnt m zs 1)else false
def cfK(zs:List Int)(m c:Int):Bool:=if chC zs m c=0 then chK (cnt m zs 0) (cnt m zs 1)else false
def cfV(zs:List Int)(m c:Int):Int:=if chC zs m c=0 then chV (cnt m zs 0) (cnt m zs 1) c else 0
theorem q48(a b c p q r:Bool):q1J (a && p) (b && q) (c && r)≤q1J p q r:=by
 cases a<;>cases b<;>cases c<;>cases p<;>cases q<;>cases r<;>decide
theorem bit7:bitB 7 0=true∧bitB 7 1=true∧bitB 7 2=true:=by decide+kernel
theorem q4z(m:Int)(zs:List Int)(v:Int):cnt m zs v≤cnt 7 zs v:=by
 unfold cnt;rw[bit7.1,bit7.2.1,bit7.2.2,Bool.true_and,Bool.true_and,Bool.true_and];exact q48 _ _ _ _ _ _
theorem ch4:∀z∈[(0:Int),1,2,3],∀o∈[(0:Int),1,2,3],(decide (0<z) && decide (0<o))=false→rd (pick5 z o)=chD z o∧rc (pick5 z o)=chK z o∧(rc (pick5 z o)=true→¬0<z∧¬0<o)∧(rc (pick5 z o)=false→(0<z∧rv (pick5 z o)=0)∨(¬0<z∧0<o∧rv (pick5 z o)=1)):=by decide+kernel
theorem q6E{zs:List Int}(m:Int)(h:q15 zs=false):(decide (0<cnt m zs 0) && decide (0<cnt m zs 1))=false:=by
 have h0:=q4z m zs 0;have h1:=q4z m zs 1;unfold q15 at h;rw[Bool.and_eq_false_iff,decide_eq_false_iff_not,decide_eq_false_iff_not]at h⊢;omega
theorem z6k(a:Option Addr)(cap:Nat)(zs:List Int)(m c:Int)(w:World)(hG:Rul w)(h:Row .i64 w a zs)(hm:zs.length≤9223372036854775807):
  Calls Tryz.prog 231 #[.slice a zs.length cap,G S m,G S c] w fun e w'=>e=.returned (.agg #[G S (chC zs m c),.bool (cfD zs m c),.bool (cfK zs m c),G S (cfV zs m c)])∧Below w.heap.size w w':=by
 have hB:Below w.heap.size w (w.alloc (.cells #[G S 0,.bool false,.bool false,G S 0] 109)):=by go_grown
 have hv:=fun w h=>z0E a cap zs 2 w h hm
 rw[q6D]at hv;by_cases h0:vf zs 2=0
 ·have hl:=z07 h0;rw[h0]at hv;rw[hl]at hv⊢;by_cases A:inB c 0 1=true
  ·have J:=fun w h=>z2F a cap zs 7 w h hl (by decide)
   have g0:=q4y (z2v 7 zs 0);have g1:=q4y (z2v 7 zs 1);by_cases C:q15 zs=true
   ·have e1:chC zs m c=1:=by simp[chC,h0,A,C]
    have e2:cfD zs m c=false:=by simp[cfD,e1]
    have e3:cfK zs m c=false:=by simp[cfK,e1]
    have e4:cfV zs m c=0:=by simp[cfV,e1]
    rw[e1,e2,e3,e4];unfold q15 at C;rw[Bool.and_eq_true]at C;rw[C.1]at g0;rw[C.2]at g1;generalize fl (cnt 7 zs 0)=z7 at*;generalize fl (cnt 7 zs 1)=o7 at*;clear e1 e2 e3 e4 h0 hl C;go_enter func231,ntmps231
    go_wp2_with (first|(go_at_call 168;refine(hv _ (h.below (by go_grown))).mono ?_;rintro e w' ⟨rfl,rfl⟩)|(go_at_call 47;refine(z0T _ _ _ _).mono ?_;rintro e w' ⟨rfl,rfl⟩)|(go_at_call 254;refine(J _ (h.below (by go_grown))).mono ?_;rintro e w' ⟨rfl,rfl⟩))
    exact bodyPost_ret (v:=.agg #[G S 1,.bool false,.bool false,G S 0]) (by simp[results,results231,go_sem]) rfl ⟨rfl,by go_grown⟩
   ·have d:q15 zs=false:=by simpa using C
    clear C;have D:=d;unfold q15 at D;have hh:=fun w h=>z5w a cap zs m w h hl
    by_cases h1:z2y zs m=true
    ·obtain⟨q1,q2,q3,q4⟩:=ch4 _ (q3v (z2v m zs 0)) _ (q3v (z2v m zs 1)) (q6E m d);have e1:chC zs m c=0:=by simp[chC,h0,A,d,h1]
     have e2:cfD zs m c=rd (pick5 (cnt m zs 0) (cnt m zs 1)):=by simp[cfD,e1,q1]
     have e3:cfK zs m c=rc (pick5 (cnt m zs 0) (cnt m zs 1)):=by simp[cfK,e1,q2]
     have e4:cfV zs m c=if rc (pick5 (cnt m zs 0) (cnt m zs 1))=true then c else rv (pick5 (cnt m zs 0) (cnt m zs 1)):=by
      simp only[cfV,e1,if_true,chV];by_cases hk:rc (pick5 (cnt m zs 0) (cnt m zs 1))=true
      ·have:=q3 hk;rw[if_pos hk,if_neg this.1,if_neg this.2]
      ·rw[if_neg hk];rcases q4 (by simpa using hk)with⟨x,y⟩|⟨x,y,z⟩
       ·rw[if_pos x,y]
       ·rw[if_neg x,if_pos y,z]
     rw[e1,e2,e3,e4];rw[h1]at hh;have hc:=fun w h=>z2F a cap zs m w h hl (z5d h1)
     have hr:=fun w h=>z5v _ _ w h (z2v m zs 0) (z2v m zs 1)
     clear q1 q2 q3 q4 e1 e2 e3 e4 h0 hl h1 d;unfold q5Z q5P at hr;generalize pick5 (cnt m zs 0) (cnt m zs 1)=E at*;generalize fl (cnt m zs 0)=z0 at*;generalize fl (cnt m zs 1)=o0 at*;generalize rz E=a0 at*;generalize ro E=a1 at*;generalize rp E=a2 at*;generalize rd E=a4 at*;generalize rc E=a5 at*;generalize rv E=a6 at*;have Bx:=Blk.new w 109 #[G S 0,.bool false,.bool false,G S 0];have V:=hr _ (hG.below hB);have T:=hc _ (h.below hB);have U:=hh _ (h.below hB);have M:=J _ (h.below hB);have X:=hv _ (h.below hB);clear hr hc hh J hv;have I:decide (0<cnt 7 zs 0)=false∨decide (0<cnt 7 zs 0)=true∧decide (0<cnt 7 zs 1)=false:=by
      revert D
      cases decide (0<cnt 7 zs 0)<;>cases decide (0<cnt 7 zs 1)<;>simp
     clear D;generalize fl (cnt 7 zs 0)=z7 at*;generalize fl (cnt 7 zs 1)=o7 at*;generalize decide (0<cnt 7 zs 0)=t0 at*;generalize decide (0<cnt 7 zs 1)=t1 at*;have hg:Hid ((FloatKind.f64.format.order z7 0==some .gt)=t0∧(FloatKind.f64.format.order o7 0==some .gt)=t1):=⟨g0,g1⟩
     clear g0 g1;go_enter func231,ntmps231
     go_wp2_with fail
     generalize w.alloc (.cells #[G S 0,.bool false,.bool false,G S 0] 109)=W at*;refine X.mono ?_;rintro e w' ⟨rfl,hw⟩;replace hw:=hw.symm;subst hw
     go_wp2_with fail
     refine(z0T _ _ _ _).mono ?_;rintro e w' ⟨rfl,hw⟩;replace hw:=hw.symm;subst hw;rw[A]
     go_wp2_with fail
     refine M.mono ?_;rintro e w' ⟨rfl,hw⟩;replace hw:=hw.symm;subst hw;clear X M;obtain⟨g0,g1⟩:=hg.out;clear hg;rcases I with rfl|⟨rfl,rfl⟩
     all_goals
      go_wp2_with fail
      refine U.mono ?_;rintro e w' ⟨rfl,hw⟩;replace hw:=hw.symm;subst hw
      go_wp2_with fail
      refine T.mono ?_;rintro e w' ⟨rfl,hw⟩;replace hw:=hw.symm;subst hw
      go_wp2_with fail
      refine V.mono ?_;rintro e w3 ⟨rfl,hb⟩;replace Bx:=Bx.below hb;replace hB:=hB.trans (hb.mono hB.size);have Z:=q47 a0 a1 a2 0 a4 a5 a6 w3;obtain⟨p0,p1,p2,p3⟩:=Bx.cel4;obtain⟨f0,f1,f2,f3⟩:=Bx.frz4;have L:=Bx.lt;clear U T V hb Bx
      cases a5
      ·go_wp2
       exact bodyPost_ret (v:=.agg #[G S 0,.bool a4,.bool false,G S a6]) (by simp[results,results231,go_sem,p0,p1,p2,p3,L,Nat.ne_of_lt L]) rfl ⟨rfl,by repeat first|exact hB|refine Below.setCell ?_ (by first|exact F _|(have:=hB.size;simp;omega)) _|refine Below.alloc ?_ (by have:=hB.size;simp;omega) _⟩
      ·go_wp2
       exact bodyPost_ret (v:=.agg #[G S 0,.bool a4,.bool true,G S c]) (by simp[results,results231,go_sem,p0,p1,p2,p3,L,Nat.ne_of_lt L]) rfl ⟨rfl,by repeat first|exact hB|refine Below.setCell ?_ (by first|exact F _|(have:=hB.size;simp;omega)) _|refine Below.alloc ?_ (by have:=hB.size;simp;omega) _⟩
    ·have O:z2y zs m=false:=by simpa using h1
     have e1:chC zs m c=10:=by simp[chC,h0,A,d,O]
     have e2:cfD zs m c=false:=by simp[cfD,e1]
     have e3:cfK zs m c=false:=by simp[cfK,e1]
     have e4:cfV zs m c=0:=by simp[cfV,e1]
     rw[e1,e2,e3,e4];rw[O]at hh;have I:decide (0<cnt 7 zs 0)=false∨decide (0<cnt 7 zs 0)=true∧decide (0<cnt 7 zs 1)=false:=by
      revert D
      cases decide (0<cnt 7 zs 0)<;>cases decide (0<cnt 7 zs 1)<;>simp
     clear e1 e2 e3 e4 h0 hl h1 D d hB;generalize fl (cnt 7 zs 0)=z7 at*;generalize fl (cnt 7 zs 1)=o7 at*;generalize decide (0<cnt 7 zs 0)=t0 at*;generalize decide (0<cnt 7 zs 1)=t1 at*;rcases I with rfl|⟨rfl,rfl⟩
     all_goals
      go_enter func231,ntmps231
      go_wp2_with (first|(go_at_call 168;refine(hv _ (h.below (by go_grown))).mono ?_;rintro e w' ⟨rfl,rfl⟩)|(go_at_call 47;refine(z0T _ _ _ _).mono ?_;rintro e w' ⟨rfl,rfl⟩)|(go_at_call 254;refine(J _ (h.below (by go_grown))).mono ?_;rintro e w' ⟨rfl,rfl⟩)|(go_at_call 255;refine(hh _ (h.below (by go_grown))).mono ?_;rintro e w' ⟨rfl,rfl⟩))
      exact bodyPost_ret (v:=.agg #[G S 10,.bool false,.bool false,G S 0]) (by simp[results,results231,go_sem]) rfl ⟨rfl,by go_grown⟩
  ·have N:inB c 0 1=false:=by simpa using A
   have e1:chC zs m c=3:=by simp[chC,h0,N]
   have e2:cfD zs m c=false:=by simp[cfD,e1]
   have e3:cfK zs m c=false:=by simp[cfK,e1]
   have e4:cfV zs m c=0:=by simp[cfV,e1]
   rw[e1,e2,e3,e4];clear e1 e2 e3 e4 h0 hl A hB;go_enter func231,ntmps231
   go_wp2_with (first|(go_at_call 168;refine(hv _ (h.below (by go_grown))).mono ?_;rintro e w' ⟨rfl,rfl⟩)|(go_at_call 47;refine(z0T _ _ _ _).mono ?_;rintro e w' ⟨rfl,rfl⟩))
   exact bodyPost_ret (v:=.agg #[G S 3,.bool false,.bool false,G S 0]) (by simp[results,results231,go_sem]) rfl ⟨rfl,by go_grown⟩
 ·have e1:chC zs m c=vf zs 2:=by simp[chC,h0]
  have e2:cfD zs m c=false:=by simp[cfD,e1,h0]
  have e3:cfK zs m c=false:=by simp[cfK,e1,h0]
  have e4:cfV zs m c=0:=by simp[cfV,e1,h0]
  rw[e1,e2,e3,e4];have Y:(vf zs 2 !=0)=true:=by simpa using h0
  clear e1 e2 e3 e4 h0 hB;generalize vf zs 2=x at*;go_enter func231,ntmps231
  go_wp2_with (go_at_call 168;refine(hv _ (h.below (by go_grown))).mono ?_;rintro e w' ⟨rfl,rfl⟩)
  exact bodyPost_ret (v:=.agg #[G S x,.bool false,.bool false,G S 0]) (by simp[results,results231,go_sem]) rfl ⟨rfl,by go_grown⟩
theorem q01(a:Option Addr)(cap:Nat)(zs:List Int)(w:World)(h:Row .i64 w a zs)(hl:zs.length=3):
  Calls Tryz.prog 223 #[.slice a 3 cap] w fun e w'=>e=.returned (.bool (q15 zs))∧Below w.heap.size w w':=by
 have hc0:=z0H a cap zs 7 0 w h hl (by decide);have hc1:=fun w h=>z0H a cap zs 7 1 w h hl (by decide)
 unfold q15;generalize cnt 7 zs 0=z at*;generalize cnt 7 zs 1=o at*;by_cases hz:0<z
 ·have hd:decide (0<z)=true:=decide_eq_true hz;rw[hd];go_enter func223,ntmps223
  go_wp2_with fail
  refine hc0.mono ?_;rintro e w1 ⟨rfl,b1⟩;have h1:=hc1 w1 (h.below b1);clear hc0 hc1
  go_wp2_with fail
  refine h1.mono ?_;rintro e w2 ⟨rfl,b2⟩;replace b2:=b1.trans (b2.mono b1.size);clear h1
  go_wp2
  go_ret;exact⟨by simp,b2⟩
 ·have hd:decide (0<z)=false:=decide_eq_false hz;rw[hd];clear hc1;go_enter func223,ntmps223
  go_wp2_with fail
  refine hc0.mono ?_;rintro e w1 ⟨rfl,b1⟩;clear hc0
  go_wp2
  go_ret;exact⟨by simp,b1⟩
theorem z8j(a:Option Addr)(cap:Nat)(zs:List Int)(m c:Int)(w:World)(h:Row .i64 w a zs)(hl:zs.length=3)(hm:inB m 0 7=true):
  Calls Tryz.prog 224 #[.slice a 3 cap,G S m,G S c] w fun e w'=>e=.returned (.agg #[G S 0,.bool (chD (cnt m zs 0) (cnt m zs 1)),.bool (chK (cnt m zs 0) (cnt m zs 1)),G S (chV (cnt m zs 0) (cnt m zs 1) c)])∧Below w.heap.size w w':=by
 have hB:Below w.heap.size w (w.alloc (.cells #[G S 0,.bool false,.bool false,G S 0] 109)):=by go_grown
 have Bx:=Blk.new w 109 #[G S 0,.bool false,.bool false,G S 0];have hi0:=z2v m zs 0;have hi1:=z2v m zs 1;have hc0:=z0H a cap zs m 0 _ (h.below hB) hl hm;have hc1:=fun w h=>z0H a cap zs m 1 w h hl hm
 generalize cnt m zs 0=z at*;generalize cnt m zs 1=o at*;obtain⟨D,hD⟩:∃D,chD z o=D:=⟨_,rfl⟩
 obtain⟨K,hK⟩:∃K,chK z o=K:=⟨_,rfl⟩
 obtain⟨V,hV⟩:∃V,chV z o c=V:=⟨_,rfl⟩
 rw[hD,hK,hV];unfold chD at hD;unfold chK at hK;unfold chV at hV;by_cases hz:0<z
 ·have HE:Hid (D=decide (2≤z)∧K=false∧V=0):=by
   rw[if_pos hz]at hD hV;rw[decide_eq_true hz]at hK;exact⟨hD.symm,hK.symm,hV.symm⟩
  clear hD hK hV hc1;go_enter func224,ntmps224
  go_wp2
  refine wp_loop_rounds 1 ?_;rw[rounds_succ]
  go_wp2_with fail
  generalize w.alloc (.cells #[G S 0,.bool false,.bool false,G S 0] 109)=W at*;refine hc0.mono ?_;rintro e w1 ⟨rfl,hb⟩;replace Bx:=Bx.below hb;replace hB:=hB.trans (hb.mono hB.size);obtain⟨p0,p1,p2,p3⟩:=Bx.cel4;obtain⟨f0,f1,f2,f3⟩:=Bx.frz4;clear hb Bx hc0
  go_wp2
  exact bodyPost_ret (v:=.agg #[G S 0,.bool (decide (2≤z)),.bool false,G S 0]) (by simp[results,results224,go_sem,p0,p1,p2,p3]) rfl ⟨by rw[HE.out.1,HE.out.2.1,HE.out.2.2],((((hB.setCell (p:=⟨w.heap.size,0,none⟩) (F _) _).setCell (p:=⟨w.heap.size,1,none⟩) (F _) _).setCell (p:=⟨w.heap.size,2,none⟩) (F _) _).setCell (p:=⟨w.heap.size,3,none⟩) (F _) _)⟩
 ·have HE:Hid (D=decide (2≤o)∧K=!decide (0<o)∧V=if 0<o then 1 else c):=by
   rw[if_neg hz]at hD hV;rw[decide_eq_false hz]at hK;exact⟨hD.symm,by simpa using hK.symm,hV.symm⟩
  clear hD hK hV;go_enter func224,ntmps224
  go_wp2
  refine wp_loop_rounds 3 ?_;rw[rounds_succ]
  go_wp2_with fail
  generalize w.alloc (.cells #[G S 0,.bool false,.bool false,G S 0] 109)=W at*;refine hc0.mono ?_;rintro e w1 ⟨rfl,hb⟩;replace Bx:=Bx.below hb;replace hB:=hB.trans (hb.mono hB.size);have h1:=hc1 w1 (h.below hB);clear hb hc0 hc1
  go_wp2_with fail
  rw[rounds_succ]
  go_wp2_with fail
  refine h1.mono ?_;rintro e w2 ⟨rfl,hb⟩;replace Bx:=Bx.below hb;replace hB:=hB.trans (hb.mono hB.size);obtain⟨p0,p1,p2,p3⟩:=Bx.cel4;obtain⟨f0,f1,f2,f3⟩:=Bx.frz4;clear hb Bx h1;by_cases ho:0<o
  ·have HE2:Hid (D=decide (2≤o)∧K=false∧V=1):=by
    obtain⟨x,y,z⟩:=HE.out;rw[if_pos ho]at z;rw[decide_eq_true ho]at y;exact⟨x,y,z⟩
   clear HE
   go_wp2
   exact bodyPost_ret (v:=.agg #[G S 0,.bool (decide (2≤o)),.bool false,G S 1]) (by simp[results,results224,go_sem,p0,p1,p2,p3]) rfl ⟨by rw[HE2.out.1,HE2.out.2.1,HE2.out.2.2],((((hB.setCell (p:=⟨w.heap.size,0,none⟩) (F _) _).setCell (p:=⟨w.heap.size,1,none⟩) (F _) _).setCell (p:=⟨w.heap.size,2,none⟩) (F _) _).setCell (p:=⟨w.heap.size,3,none⟩) (F _) _)⟩
  ·have HE2:Hid (D=false∧K=true∧V=c):=by
    obtain⟨x,y,z⟩:=HE.out;rw[if_neg ho]at z;rw[decide_eq_false ho]at y;rw[decide_eq_false (by omega)]at x;exact⟨x,y,z⟩
   clear HE
   go_wp2
   rw[rounds_succ]
   go_wp2
   exact bodyPost_ret (v:=.agg #[G S 0,.bool false,.bool true,G S c]) (by simp[results,results224,go_sem,p0,p1,p2,p3]) rfl ⟨by rw[HE2.out.1,HE2.out.2.1,HE2.out.2.2],((((hB.setCell (p:=⟨w.heap.size,0,none⟩) (F _) _).setCell (p:=⟨w.heap.size,1,none⟩) (F _) _).setCell (p:=⟨w.heap.size,2,none⟩) (F _) _).setCell (p:=⟨w.heap.size,3,none⟩) (F _) _)⟩
theorem z6l(a:Option Addr)(cap:Nat)(zs:List Int)(m c:Int)(w:World)(h:Row .i64 w a zs)(hm:zs.length≤9223372036854775807):
  Calls Tryz.prog 194 #[.slice a zs.length cap,G S m,G S c] w fun e w'=>e=.returned (.agg #[G S (chC zs m c),.bool (cfD zs m c),.bool (cfK zs m c),G S (cfV zs m c)])∧Below w.heap.size w w':=by
 obtain⟨C,hC⟩:∃C,chC zs m c=C:=⟨_,rfl⟩
 obtain⟨D,hD⟩:∃D,cfD zs m c=D:=⟨_,rfl⟩
 obtain⟨K,hK⟩:∃K,cfK zs m c=K:=⟨_,rfl⟩
 obtain⟨V,hV⟩:∃V,cfV zs m c=V:=⟨_,rfl⟩
 rw[hC,hD,hK,hV];have HN:Hid (∀x,chC zs m c=x→x≠0→C=x∧D=false∧K=false∧V=0):=by
  intro x hx hn;refine⟨hC.symm.trans hx,?_,?_,?_⟩
  ·rw[←hD];simp[cfD,hx,hn]
  ·rw[←hK];simp[cfK,hx,hn]
  ·rw[←hV];simp[cfV,hx,hn]
 have HY:Hid (chC zs m c=0→C=0∧D=chD (cnt m zs 0) (cnt m zs 1)∧K=chK (cnt m zs 0) (cnt m zs 1)∧V=chV (cnt m zs 0) (cnt m zs 1) c):=by
  intro hx;refine⟨hC.symm.trans hx,?_,?_,?_⟩
  ·rw[←hD];simp[cfD,hx]
  ·rw[←hK];simp[cfK,hx]
  ·rw[←hV];simp[cfV,hx]
 clear hC hD hK hV;have hB:Below w.heap.size w (w.alloc (.cells #[G S 0,.bool false,.bool false,G S 0] 109)):=by go_grown
 have Bx:=Blk.new w 109 #[G S 0,.bool false,.bool false,G S 0];have hv:=z08 a cap zs 2 _ (h.below hB) hm;go_enter func194,ntmps194
 go_wp2_with fail
 generalize w.alloc (.cells #[G S 0,.bool false,.bool false,G S 0] 109)=W at*;refine hv.mono ?_;rintro e w1 ⟨rfl,hb⟩;replace Bx:=Bx.below hb;replace hB:=hB.trans (hb.mono hB.size);clear hv hb;by_cases h0:vf zs 2=0
 ·have hl:=z07 h0;rw[h0,hl];by_cases d:inB c 0 1=true
  ·have I:=q01 a cap zs w1 (h.below hB) hl
   go_wp2_with fail
   refine(z1o _ _ _ _).mono ?_;rintro e w' ⟨rfl,hw⟩;replace hw:=hw.symm;subst hw;rw[d]
   go_wp2_with fail
   refine I.mono ?_;rintro e w2 ⟨rfl,hb⟩;replace Bx:=Bx.below hb;replace hB:=hB.trans (hb.mono hB.size);clear hb I;by_cases z:q15 zs=true
   ·have HE:=HN.out 1 (by simp[chC,h0,d,z]) (by omega);have HE:Hid _:=HE;obtain⟨p0,p1,p2,p3⟩:=Bx.cel4;obtain⟨f0,f1,f2,f3⟩:=Bx.frz4;rw[z];clear HN HY Bx h0 hl
    go_wp2
    exact bodyPost_ret (v:=.agg #[G S 1,.bool false,.bool false,G S 0]) (by simp[results,results194,go_sem,p0,p1,p2,p3]) rfl ⟨by rw[HE.out.1,HE.out.2.1,HE.out.2.2.1,HE.out.2.2.2],((((hB.setCell (p:=⟨w.heap.size,0,none⟩) (F _) _).setCell (p:=⟨w.heap.size,1,none⟩) (F _) _).setCell (p:=⟨w.heap.size,2,none⟩) (F _) _).setCell (p:=⟨w.heap.size,3,none⟩) (F _) _)⟩
   ·have y:q15 zs=false:=by simpa using z
    have hh:=z5x a cap zs m w2 (h.below hB) hl;rw[y]
    go_wp2_with fail
    refine hh.mono ?_;rintro e w3 ⟨rfl,hb⟩;replace Bx:=Bx.below hb;replace hB:=hB.trans (hb.mono hB.size);clear hb hh;by_cases h1:z2y zs m=true
    ·have HE:=HY.out (by simp[chC,h0,d,y,h1]);have HE:Hid _:=HE;have J:=z8j a cap zs m c w3 (h.below hB) hl (z5d h1);rw[h1];generalize chD (cnt m zs 0) (cnt m zs 1)=D1 at*;generalize chK (cnt m zs 0) (cnt m zs 1)=K1 at*;generalize chV (cnt m zs 0) (cnt m zs 1) c=V1 at*
     go_wp2_with fail
     refine J.mono ?_;rintro e w4 ⟨rfl,hb⟩;replace Bx:=Bx.below hb;replace hB:=hB.trans (hb.mono hB.size);obtain⟨p0,p1,p2,p3⟩:=Bx.cel4;obtain⟨f0,f1,f2,f3⟩:=Bx.frz4;clear hb J HN HY Bx h0 hl
     go_wp2
     exact bodyPost_ret (v:=.agg #[G S 0,.bool D1,.bool K1,G S V1]) (by simp[results,results194,go_sem,p0,p1,p2,p3]) rfl ⟨by rw[HE.out.1,HE.out.2.1,HE.out.2.2.1,HE.out.2.2.2],((((hB.setCell (p:=⟨w.heap.size,0,none⟩) (F _) _).setCell (p:=⟨w.heap.size,1,none⟩) (F _) _).setCell (p:=⟨w.heap.size,2,none⟩) (F _) _).setCell (p:=⟨w.heap.size,3,none⟩) (F _) _)⟩
    ·have E:z2y zs m=false:=by simpa using h1
     have HE:=HN.out 10 (by simp[chC,h0,d,y,E]) (by omega);have HE:Hid _:=HE;rw[E];obtain⟨p0,p1,p2,p3⟩:=Bx.cel4;obtain⟨f0,f1,f2,f3⟩:=Bx.frz4;clear HN HY Bx h0 hl
     go_wp2
     exact bodyPost_ret (v:=.agg #[G S 10,.bool false,.bool false,G S 0]) (by simp[results,results194,go_sem,p0,p1,p2,p3]) rfl ⟨by rw[HE.out.1,HE.out.2.1,HE.out.2.2.1,HE.out.2.2.2],((((hB.setCell (p:=⟨w.heap.size,0,none⟩) (F _) _).setCell (p:=⟨w.heap.size,1,none⟩) (F _) _).setCell (p:=⟨w.heap.size,2,none⟩) (F _) _).setCell (p:=⟨w.heap.size,3,none⟩) (F _) _)⟩
  ·have A:inB c 0 1=false:=by simpa using d
   have HE:=HN.out 3 (by simp[chC,h0,A]) (by omega);have HE:Hid _:=HE;obtain⟨p0,p1,p2,p3⟩:=Bx.cel4;obtain⟨f0,f1,f2,f3⟩:=Bx.frz4;clear HN HY Bx h0 hl
   go_wp2_with (go_at_call 71;refine(z1o _ _ _ _).mono ?_;rintro e w' ⟨rfl,hw⟩;replace hw:=hw.symm;subst hw)
   exact bodyPost_ret (v:=.agg #[G S 3,.bool false,.bool false,G S 0]) (by simp[results,results194,go_sem,p0,p1,p2,p3]) rfl ⟨by rw[HE.out.1,HE.out.2.1,HE.out.2.2.1,HE.out.2.2.2],((((hB.setCell (p:=⟨w.heap.size,0,none⟩) (F _) _).setCell (p:=⟨w.heap.size,1,none⟩) (F _) _).setCell (p:=⟨w.heap.size,2,none⟩) (F _) _).setCell (p:=⟨w.heap.size,3,none⟩) (F _) _)⟩
 ·have HE:=HN.out (vf zs 2) (by simp[chC,h0]) h0;have HE:Hid _:=HE;have L:(vf zs 2 !=0)=true:=by simpa using h0
  obtain⟨p0,p1,p2,p3⟩:=Bx.cel4;obtain⟨f0,f1,f2,f3⟩:=Bx.frz4;clear HN HY Bx h0;generalize vf zs 2=x at*
  go_wp2
  exact bodyPost_ret (v:=.agg #[G S x,.bool false,.bool false,G S 0]) (by simp[results,results194,go_sem,p0,p1,p2,p3]) rfl ⟨by rw[HE.out.1,HE.out.2.1,HE.out.2.2.1,HE.out.2.2.2],((((hB.setCell (p:=⟨w.heap.size,0,none⟩) (F _) _).setCell (p:=⟨w.heap.size,1,none⟩) (F _) _).setCell (p:=⟨w.heap.size,2,none⟩) (F _) _).setCell (p:=⟨w.heap.size,3,none⟩) (F _) _)⟩
def z3Q(f:Nat→Bool)(n:Nat):Bool:=(List.range n).any f
theorem z5e(f:Nat→Bool)(k:Nat)(h:z3Q f k=false)(hk:f k=false):z3Q f (k+1)=false:=by
 unfold z3Q at*;rw[List.range_succ,List.any_append,h,List.any_cons,hk];rfl
theorem z7e(f:Nat→Bool)(k:Nat)(hk:k<8)(h:f k=true):z3Q f 8=true:=by
 unfold z3Q;rw[List.any_eq_true];exact⟨k,List.mem_range.2 hk,h⟩
def pB(zs:List Int)(v:Int)(k:Nat):Bool:=(pfC zs k==0) && (pfV zs k==v)
def mayP(zs:List Int)(v:Int):Bool:=z3Q (pB zs v) 8
def rB(zs:List Int)(v:Int)(k:Nat):Bool:=(chC zs k v==0) && (cfV zs k v==v)
def mayR(zs:List Int)(v:Int):Bool:=z3Q (rB zs v) 8
theorem q0a(f:Nat→Bool)(h:∀k,f k=false)(n:Nat):z3Q f n=false:=by
 unfold z3Q;rw[List.any_eq_false];intro x _;rw[h x];decide
theorem q49(zs:List Int)(v:Int)(h:inB v 0 1=false):mayR zs v=false:=by
 refine q0a _ (fun k=>?_) 8;have hc:(chC zs k v==0)=false:=by
  rw[beq_eq_false_iff_ne];unfold chC;rw[h];split
  ·simp
  ·assumption
 simp only[rB,hc,Bool.false_and]
theorem z8k(a:Option Addr)(cap:Nat)(zs:List Int)(v:Int)(w:World)(hG:Rul w)(h:Row .i64 w a zs)(hm:zs.length≤9223372036854775807):
  Calls Tryz.prog 207 #[.slice a zs.length cap,G S v] w fun e w'=>e=.returned (.bool (mayP zs v))∧Below w.heap.size w w':=by
 have HT:Hid (∀k,k<8→pB zs v k=true→mayP zs v=true):=fun k hk h=>z7e _ k hk h
 have HF:Hid (z3Q (pB zs v) 8=false→mayP zs v=false):=fun h=>h
 generalize mayP zs v=E at HT HF⊢;go_enter func207,ntmps207
 go_wp2
 go_loopw[6] (fun i wr=>∃k:Nat,k≤8∧i=G S k∧z3Q (pB zs v) k=false∧Below w.heap.size w wr) (fun i _=>8-(intOf i).toNat)
 case atStart=>exact⟨0,Q _,rfl,rfl,Below.refl _ _⟩
 case round=>
  obtain⟨k,hk,rfl,c,hb⟩:=hrel;by_cases D:k<8
  ·have hc:=z8h a cap zs k wr (hG.below hb) (h.below hb) hm;have HS:Hid (pB zs v k=false→z3Q (pB zs v) (k+1)=false):=fun h=>z5e _ k c h
   have HY:Hid (pB zs v k=true→E=true):=fun h=>HT.out k D h
   have x:pB zs v k=((pfC zs k==0) && (pfV zs k==v)):=rfl;rw[x]at HS HY;clear HT HF c x;generalize pfC zs k=C at*;generalize pfV zs k=V at*
   go_wp2_with fail
   refine hc.mono ?_;rintro e w1 ⟨rfl,d⟩;replace hb:=hb.trans (d.mono hb.size);clear hc d;by_cases h1:C=0
   ·subst h1;by_cases h2:(V==v)=true
    ·have HE:Hid (E=true):=HY.out (by rw[h2];rfl);clear HS HY
     go_wp2
     go_ret;exact⟨by rw[HE.out];rfl,by repeat first|exact hb|refine Below.alloc ?_ (by have:=hb.size;simp;omega) _⟩
    ·have z:(V==v)=false:=by simpa using h2
     have R:Hid (z3Q _ (k+1)=false):=HS.out (by rw[z];rfl);clear HS HY h2
     go_wp2
     go_roundw
     case rel=>exact⟨k+1,by omega,by go_num,R.out,by repeat first|exact hb|refine Below.alloc ?_ (by have:=hb.size;simp;omega) _⟩
     case measure=>simp[intOf];omega
   ·have y:(C==0)=false:=by simpa using h1
    have R:Hid (z3Q _ (k+1)=false):=HS.out (by rw[y];rfl);clear HS HY h1
    go_wp2
    go_roundw
    case rel=>exact⟨k+1,by omega,by go_num,R.out,by repeat first|exact hb|refine Below.alloc ?_ (by have:=hb.size;simp;omega) _⟩
    case measure=>simp[intOf];omega
  ·have A:k=8:=by omega
   subst A;have HE:Hid (E=false):=HF.out c;clear HT HF c
   go_wp2
   go_ret;exact⟨by rw[HE.out];rfl,hb⟩
theorem z8l(a:Option Addr)(cap:Nat)(zs:List Int)(v:Int)(w:World)(h:Row .i64 w a zs)(hm:zs.length≤9223372036854775807):
  Calls Tryz.prog 157 #[.slice a zs.length cap,G S v] w fun e w'=>e=.returned (.bool (mayP zs v))∧Below w.heap.size w w':=by
 have HT:Hid (∀k,k<8→pB zs v k=true→mayP zs v=true):=fun k hk h=>z7e _ k hk h
 have HF:Hid (z3Q (pB zs v) 8=false→mayP zs v=false):=fun h=>h
 generalize mayP zs v=E at HT HF⊢;go_enter func157,ntmps157
 go_wp2
 go_loopw[5] (fun i wr=>∃k:Nat,k≤8∧i=G S k∧z3Q (pB zs v) k=false∧Below w.heap.size w wr) (fun i _=>8-(intOf i).toNat)
 case atStart=>exact⟨0,Q _,rfl,rfl,Below.refl _ _⟩
 case round=>
  obtain⟨k,hk,rfl,c,hb⟩:=hrel;by_cases D:k<8
  ·have hc:=z8i a cap zs k wr (h.below hb) hm;have HS:Hid (pB zs v k=false→z3Q (pB zs v) (k+1)=false):=fun h=>z5e _ k c h
   have HY:Hid (pB zs v k=true→E=true):=fun h=>HT.out k D h
   have x:pB zs v k=((pfC zs k==0) && (pfV zs k==v)):=rfl;rw[x]at HS HY;clear HT HF c x;generalize pfC zs k=C at*;generalize pfV zs k=V at*
   go_wp2_with fail
   refine hc.mono ?_;rintro e w1 ⟨rfl,d⟩;replace hb:=hb.trans (d.mono hb.size);clear hc d;by_cases h1:C=0
   ·subst h1;by_cases h2:(V==v)=true
    ·have HE:Hid (E=true):=HY.out (by rw[h2];rfl);clear HS HY
     go_wp2
     go_ret;exact⟨by rw[HE.out];rfl,by repeat first|exact hb|refine Below.alloc ?_ (by have:=hb.size;simp;omega) _⟩
    ·have z:(V==v)=false:=by simpa using h2
     have R:Hid (z3Q _ (k+1)=false):=HS.out (by rw[z];rfl);clear HS HY h2
     go_wp2
     go_roundw
     case rel=>exact⟨k+1,by omega,by go_num,R.out,by repeat first|exact hb|refine Below.alloc ?_ (by have:=hb.size;simp;omega) _⟩
     case measure=>simp[intOf];omega
   ·have y:(C==0)=false:=by simpa using h1
    have R:Hid (z3Q _ (k+1)=false):=HS.out (by rw[y];rfl);clear HS HY h1
    go_wp2
    go_roundw
    case rel=>exact⟨k+1,by omega,by go_num,R.out,by repeat first|exact hb|refine Below.alloc ?_ (by have:=hb.size;simp;omega) _⟩
    case measure=>simp[intOf];omega
  ·have A:k=8:=by omega
   subst A;have HE:Hid (E=false):=HF.out c;clear HT HF c
   go_wp2
   go_ret;exact⟨by rw[HE.out];rfl,hb⟩
theorem z4I(a:Option Addr)(cap:Nat)(zs:List Int)(v:Int)(w:World)(hG:Rul w)(h:Row .i64 w a zs)(hm:zs.length≤9223372036854775807):
  Calls Tryz.prog 205 #[.slice a zs.length cap,G S v] w fun e w'=>e=.returned (.bool (mayR zs v))∧Below w.heap.size w w':=by
 have HT:Hid (∀k,k<8→rB zs v k=true→mayR zs v=true):=fun k hk h=>z7e _ k hk h
 have HF:Hid (z3Q (rB zs v) 8=false→mayR zs v=false):=fun h=>h
 generalize mayR zs v=E at HT HF⊢;go_enter func205,ntmps205
 go_wp2
 go_loopw[7] (fun i wr=>∃k:Nat,k≤8∧i=G S k∧z3Q (rB zs v) k=false∧Below w.heap.size w wr) (fun i _=>8-(intOf i).toNat)
 case atStart=>exact⟨0,Q _,rfl,rfl,Below.refl _ _⟩
 case round=>
  obtain⟨k,hk,rfl,c,hb⟩:=hrel;by_cases I:k<8
  ·have hc:=z6k a cap zs k v wr (hG.below hb) (h.below hb) hm;have HS:Hid (rB zs v k=false→z3Q (rB zs v) (k+1)=false):=fun h=>z5e _ k c h
   have HY:Hid (rB zs v k=true→E=true):=fun h=>HT.out k I h
   have x:rB zs v k=((chC zs k v==0) && (cfV zs k v==v)):=rfl;rw[x]at HS HY;clear HT HF c x;generalize chC zs k v=C at*;generalize cfD zs k v=D at*;generalize cfK zs k v=K at*;generalize cfV zs k v=V at*
   go_wp2_with fail
   refine hc.mono ?_;rintro e w1 ⟨rfl,d⟩;replace hb:=hb.trans (d.mono hb.size);clear hc d;by_cases h1:C=0
   ·subst h1;by_cases h2:(V==v)=true
    ·have HE:Hid (E=true):=HY.out (by rw[h2];rfl);clear HS HY
     go_wp2
     go_ret;exact⟨by rw[HE.out];rfl,by repeat first|exact hb|refine Below.alloc ?_ (by have:=hb.size;simp;omega) _⟩
    ·have z:(V==v)=false:=by simpa using h2
     have R:Hid (z3Q _ (k+1)=false):=HS.out (by rw[z];rfl);clear HS HY h2
     go_wp2
     go_roundw
     case rel=>exact⟨k+1,by omega,by go_num,R.out,by repeat first|exact hb|refine Below.alloc ?_ (by have:=hb.size;simp;omega) _⟩
     case measure=>simp[intOf];omega
   ·have y:(C==0)=false:=by simpa using h1
    have R:Hid (z3Q _ (k+1)=false):=HS.out (by rw[y];rfl);clear HS HY h1
    go_wp2
    go_roundw
    case rel=>exact⟨k+1,by omega,by go_num,R.out,by repeat first|exact hb|refine Below.alloc ?_ (by have:=hb.size;simp;omega) _⟩
    case measure=>simp[intOf];omega
  ·have A:k=8:=by omega
   subst A;have HE:Hid (E=false):=HF.out c;clear HT HF c
   go_wp2
   go_ret;exact⟨by rw[HE.out];rfl,hb⟩
theorem z4J(a:Option Addr)(cap:Nat)(zs:List Int)(v:Int)(w:World)(h:Row .i64 w a zs)(hm:zs.length≤9223372036854775807):
  Calls Tryz.prog 158 #[.slice a zs.length cap,G S v] w fun e w'=>e=.returned (.bool (mayR zs v))∧Below w.heap.size w w':=by
 have HT:Hid (∀k,k<8→rB zs v k=true→mayR zs v=true):=fun k hk h=>z7e _ k hk h
 have HF:Hid (z3Q (rB zs v) 8=false→mayR zs v=false):=fun h=>h
 by_cases y:inB v 0 1=true
 case neg=>
  have z:inB v 0 1=false:=by simpa using y
  rw[q49 zs v z];clear y HT HF;go_enter func158,ntmps158
  go_wp2_with (go_at_call 71;refine(z1o _ _ _ _).mono ?_;rintro e w' ⟨rfl,rfl⟩)
  go_ret;exact⟨rfl,Below.refl _ _⟩
 generalize mayR zs v=E at HT HF⊢;go_enter func158,ntmps158
 go_wp2_with (go_at_call 71;refine(z1o _ _ _ _).mono ?_;rintro e w' ⟨rfl,hw⟩;replace hw:=hw.symm;subst hw)
 go_loopw[5] (fun i wr=>∃k:Nat,k≤8∧i=G S k∧z3Q (rB zs v) k=false∧Below w.heap.size w wr) (fun i _=>8-(intOf i).toNat)
 case atStart=>exact⟨0,Q _,rfl,rfl,Below.refl _ _⟩
 case round=>
  obtain⟨k,hk,rfl,c,hb⟩:=hrel;by_cases L:k<8
  ·have hc:=z6l a cap zs k v wr (h.below hb) hm;have HS:Hid (rB zs v k=false→z3Q (rB zs v) (k+1)=false):=fun h=>z5e _ k c h
   have HY:Hid (rB zs v k=true→E=true):=fun h=>HT.out k L h
   have x:rB zs v k=((chC zs k v==0) && (cfV zs k v==v)):=rfl;rw[x]at HS HY;clear HT HF c x;generalize chC zs k v=C at*;generalize cfD zs k v=D at*;generalize cfK zs k v=K at*;generalize cfV zs k v=V at*
   go_wp2_with fail
   refine hc.mono ?_;rintro e w1 ⟨rfl,d⟩;replace hb:=hb.trans (d.mono hb.size);clear hc d;by_cases h1:C=0
   ·subst h1;by_cases h2:(V==v)=true
    ·have HE:Hid (E=true):=HY.out (by rw[h2];rfl);clear HS HY
     go_wp2
     go_ret;exact⟨by rw[HE.out];rfl,by repeat first|exact hb|refine Below.alloc ?_ (by have:=hb.size;simp;omega) _⟩
    ·have I:(V==v)=false:=by simpa using h2
     have R:Hid (z3Q _ (k+1)=false):=HS.out (by rw[I];rfl);clear HS HY h2
     go_wp2
     go_roundw
     case rel=>exact⟨k+1,by omega,by go_num,R.out,by repeat first|exact hb|refine Below.alloc ?_ (by have:=hb.size;simp;omega) _⟩
     case measure=>simp[intOf];omega
   ·have A:(C==0)=false:=by simpa using h1
    have R:Hid (z3Q _ (k+1)=false):=HS.out (by rw[A];rfl);clear HS HY h1
    go_wp2
    go_roundw
    case rel=>exact⟨k+1,by omega,by go_num,R.out,by repeat first|exact hb|refine Below.alloc ?_ (by have:=hb.size;simp;omega) _⟩
    case measure=>simp[intOf];omega
  ·have J:k=8:=by omega
   subst J;have HE:Hid (E=false):=HF.out c;clear HT HF c
   go_wp2
   go_ret;exact⟨by rw[HE.out];rfl,hb⟩
abbrev v4:List Int:=[0,1,2,3]
theorem z9o{most x:Int}(hm:most=1∨most=2)(h:vOk most x=true):x∈v4:=by
 unfold vOk inB at h;rw[Bool.or_eq_true,decide_eq_true_eq,beq_iff_eq]at h;exact q3v (by omega)
theorem q3G{zs:List Int}{most:Int}(hm:most=1∨most=2)(h:vf zs most=0):∃x∈v4,∃y∈v4,∃z∈v4,zs=[x,y,z]:=by
 have hl:=z07 h;obtain⟨x,y,z,rfl⟩:=z7Z hl;unfold vf at h;rw[if_pos hl]at h;have ha:[x,y,z].all (vOk most)=true:=by
  by_cases hx:[x,y,z].all (vOk most)=true
  ·exact hx
  ·rw[if_neg hx]at h;simp at h
 simp only[List.all_cons,List.all_nil,Bool.and_true,Bool.and_eq_true]at ha;exact⟨x,z9o hm ha.1,y,z9o hm ha.2.1,z,z9o hm ha.2.2,rfl⟩
theorem q5a{zs:List Int}{m:Int}(h:pfC zs m=0):vf zs 1=0∧z2y zs m=true:=by
 unfold pfC at h;by_cases h0:vf zs 1=0
 ·rw[if_pos h0]at h;by_cases h1:z2y zs m=true
  ·exact⟨h0,h1⟩
  ·rw[if_neg h1]at h;simp at h
 ·rw[if_neg h0]at h;exact absurd h h0
end Go.Proofs.YtjjoahhnkpjolaaGreatDoor
