/- Texts joined,with what the laws reach alone. -/
import Derived.Test.YtciofogeiohleaaGreatDoorCOAA
import Derived.Laws.StructEq
set_option linter.unusedVariables false
set_option linter.unusedSimpArgs false
set_option maxRecDepth 100000
set_option maxHeartbeats 2000000
namespace Go.Proofs.YtciofogeiohleaaGreatDoor
open Go.RowKit Go.BigFrame
def z43(zs:List Int):Bool:=decide (0<cnt 7 zs 0) && decide (0<cnt 7 zs 1)
def chC(zs:List Int)(m c:Int):Int:=if vf zs 2=0 then(if inB c 0 1 then(if z43 zs then 1 else if z1E zs m then 0 else 10)else 3)else vf zs 2
def chD(z o:Int):Bool:=if 0<z then decide (2≤z)else decide (2≤o)
def chK(z o:Int):Bool:=!decide (0<z) && !decide (0<o)
def chV(z o c:Int):Int:=if 0<z then 0 else if 0<o then 1 else c
def cfD(zs:List Int)(m c:Int):Bool:=if chC zs m c=0 then chD (cnt m zs 0) (cnt m zs 1)else false
def cfK(zs:List Int)(m c:Int):Bool:=if chC zs m c=0 then chK (cnt m zs 0) (cnt m zs 1)else false
def cfV(zs:List Int)(m c:Int):Int:=if chC zs m c=0 then chV (cnt m zs 0) (cnt m zs 1) c else 0
theorem z91(a b c p q r:Bool):z7L (a && p) (b && q) (c && r)≤z7L p q r:=by
 cases a<;>cases b<;>cases c<;>cases p<;>cases q<;>cases r<;>decide
theorem bit7:bitB 7 0=true∧bitB 7 1=true∧bitB 7 2=true:=by decide+kernel
theorem z5H(m:Int)(zs:List Int)(v:Int):cnt m zs v≤cnt 7 zs v:=by
 unfold cnt;rw[bit7.1,bit7.2.1,bit7.2.2,Bool.true_and,Bool.true_and,Bool.true_and];exact z91 _ _ _ _ _ _
theorem ch4:∀z∈[(0:Int),1,2,3],∀o∈[(0:Int),1,2,3],(decide (0<z) && decide (0<o))=false→rd (pick5 z o)=chD z o∧rc (pick5 z o)=chK z o∧(rc (pick5 z o)=true→¬0<z∧¬0<o)∧(rc (pick5 z o)=false→(0<z∧rv (pick5 z o)=0)∨(¬0<z∧0<o∧rv (pick5 z o)=1)):=by decide+kernel
theorem q1x{zs:List Int}(m:Int)(h:z43 zs=false):(decide (0<cnt m zs 0) && decide (0<cnt m zs 1))=false:=by
 have h0:=z5H m zs 0;have h1:=z5H m zs 1;unfold z43 at h;rw[Bool.and_eq_false_iff,decide_eq_false_iff_not,decide_eq_false_iff_not]at h⊢;omega
theorem z4F(a:Option Addr)(cap:Nat)(zs:List Int)(m c:Int)(w:World)(hG:Rul w)(h:Row .i64 w a zs)(hm:zs.length≤9223372036854775807):
  Calls Tryz.prog 228 #[.slice a zs.length cap,.int .i64 m,.int .i64 c] w fun e w'=>e=.returned (.agg #[.int .i64 (chC zs m c),.bool (cfD zs m c),.bool (cfK zs m c),.int .i64 (cfV zs m c)])∧Below w.heap.size w w':=by
 have hB:Below w.heap.size w (w.alloc (.cells #[.int .i64 0,.bool false,.bool false,.int .i64 0] 81)):=by go_grown
 have hv:=fun w h=>z0G a cap zs 2 w h hm
 rw[q1w]at hv;by_cases h0:vf zs 2=0
 ·have hl:=z0A h0;rw[h0]at hv;rw[hl]at hv⊢;by_cases q:inB c 0 1=true
  ·have C:=fun w h=>z19 a cap zs 7 w h hl (by decide)
   have g0:=z9C (z15 7 zs 0);have g1:=z9C (z15 7 zs 1);by_cases r:z43 zs=true
   ·have e1:chC zs m c=1:=by simp[chC,h0,q,r]
    have e2:cfD zs m c=false:=by simp[cfD,e1]
    have e3:cfK zs m c=false:=by simp[cfK,e1]
    have e4:cfV zs m c=0:=by simp[cfV,e1]
    rw[e1,e2,e3,e4];unfold z43 at r;rw[Bool.and_eq_true]at r;rw[r.1]at g0;rw[r.2]at g1;generalize fl (cnt 7 zs 0)=z7 at*;generalize fl (cnt 7 zs 1)=o7 at*;clear e1 e2 e3 e4 h0 hl r;go_enter Tryz.func228,Tryz.ntmps228
    go_wp2_with (first|(go_at_call 196;refine(hv _ (h.below (by go_grown))).mono ?_;rintro e w' ⟨rfl,rfl⟩)|(go_at_call 38;refine(z0N _ _ _ _).mono ?_;rintro e w' ⟨rfl,rfl⟩)|(go_at_call 244;refine(C _ (h.below (by go_grown))).mono ?_;rintro e w' ⟨rfl,rfl⟩))
    exact bodyPost_ret (v:=.agg #[.int .i64 1,.bool false,.bool false,.int .i64 0]) (by simp[results,Tryz.results228,go_sem]) rfl ⟨rfl,by go_grown⟩
   ·have d:z43 zs=false:=by simpa using r
    clear r;have s:=d;unfold z43 at s;have hh:=fun w h=>z34 a cap zs m w h hl
    by_cases h1:z1E zs m=true
    ·obtain⟨q1,q2,q3,q4⟩:=ch4 _ (z8S (z15 m zs 0)) _ (z8S (z15 m zs 1)) (q1x m d);have e1:chC zs m c=0:=by simp[chC,h0,q,d,h1]
     have e2:cfD zs m c=rd (pick5 (cnt m zs 0) (cnt m zs 1)):=by simp[cfD,e1,q1]
     have e3:cfK zs m c=rc (pick5 (cnt m zs 0) (cnt m zs 1)):=by simp[cfK,e1,q2]
     have e4:cfV zs m c=if rc (pick5 (cnt m zs 0) (cnt m zs 1))=true then c else rv (pick5 (cnt m zs 0) (cnt m zs 1)):=by
      simp only[cfV,e1,if_true,chV];by_cases hk:rc (pick5 (cnt m zs 0) (cnt m zs 1))=true
      ·have:=q3 hk;rw[if_pos hk,if_neg this.1,if_neg this.2]
      ·rw[if_neg hk];rcases q4 (by simpa using hk)with⟨x,y⟩|⟨x,y,z⟩
       ·rw[if_pos x,y]
       ·rw[if_neg x,if_pos y,z]
     rw[e1,e2,e3,e4];rw[h1]at hh;have hc:=fun w h=>z19 a cap zs m w h hl (z2h h1)
     have hr:=fun w h=>z33 _ _ w h (z15 m zs 0) (z15 m zs 1)
     clear q1 q2 q3 q4 e1 e2 e3 e4 h0 hl h1 d;unfold q0L q0C at hr;generalize pick5 (cnt m zs 0) (cnt m zs 1)=E at*;generalize fl (cnt m zs 0)=z0 at*;generalize fl (cnt m zs 1)=o0 at*;generalize rz E=a0 at*;generalize ro E=a1 at*;generalize rp E=a2 at*;generalize rd E=a4 at*;generalize rc E=a5 at*;generalize rv E=a6 at*;have Bx:=Blk.new w 81 #[.int .i64 0,.bool false,.bool false,.int .i64 0];have N:=hr _ (hG.below hB);have L:=hc _ (h.below hB);have M:=hh _ (h.below hB);have G:=C _ (h.below hB);have O:=hv _ (h.below hB);clear hr hc hh C hv;have A:decide (0<cnt 7 zs 0)=false∨decide (0<cnt 7 zs 0)=true∧decide (0<cnt 7 zs 1)=false:=by
      revert s
      cases decide (0<cnt 7 zs 0)<;>cases decide (0<cnt 7 zs 1)<;>simp
     clear s;generalize fl (cnt 7 zs 0)=z7 at*;generalize fl (cnt 7 zs 1)=o7 at*;generalize decide (0<cnt 7 zs 0)=t0 at*;generalize decide (0<cnt 7 zs 1)=t1 at*;have hg:Hid ((FloatKind.f64.format.order z7 0==some .gt)=t0∧(FloatKind.f64.format.order o7 0==some .gt)=t1):=⟨g0,g1⟩
     clear g0 g1;go_enter Tryz.func228,Tryz.ntmps228
     go_wp2_with fail
     generalize w.alloc (.cells #[.int .i64 0,.bool false,.bool false,.int .i64 0] 81)=W at*;refine O.mono ?_;rintro e w' ⟨rfl,hw⟩;replace hw:=hw.symm;subst hw
     go_wp2_with fail
     refine(z0N _ _ _ _).mono ?_;rintro e w' ⟨rfl,hw⟩;replace hw:=hw.symm;subst hw;rw[q]
     go_wp2_with fail
     refine G.mono ?_;rintro e w' ⟨rfl,hw⟩;replace hw:=hw.symm;subst hw;clear O G;obtain⟨g0,g1⟩:=hg.out;clear hg;rcases A with rfl|⟨rfl,rfl⟩
     all_goals
      go_wp2_with fail
      refine M.mono ?_;rintro e w' ⟨rfl,hw⟩;replace hw:=hw.symm;subst hw
      go_wp2_with fail
      refine L.mono ?_;rintro e w' ⟨rfl,hw⟩;replace hw:=hw.symm;subst hw
      go_wp2_with fail
      refine N.mono ?_;rintro e w3 ⟨rfl,hb⟩;replace Bx:=Bx.below hb;replace hB:=hB.trans (hb.mono hB.size);have U:=z90 a0 a1 a2 0 a4 a5 a6 w3;obtain⟨p0,p1,p2,p3⟩:=Bx.cel4;obtain⟨f0,f1,f2,f3⟩:=Bx.frz4;have D:=Bx.lt;clear M L N hb Bx
      cases a5
      ·go_wp2
       exact bodyPost_ret (v:=.agg #[.int .i64 0,.bool a4,.bool false,.int .i64 a6]) (by simp[results,Tryz.results228,go_sem,p0,p1,p2,p3,D,Nat.ne_of_lt D]) rfl ⟨rfl,by repeat first|exact hB|refine Below.setCell ?_ (by first|exact Nat.le_refl _|(have:=hB.size;simp;omega)) _|refine Below.alloc ?_ (by have:=hB.size;simp;omega) _⟩
      ·go_wp2
       exact bodyPost_ret (v:=.agg #[.int .i64 0,.bool a4,.bool true,.int .i64 c]) (by simp[results,Tryz.results228,go_sem,p0,p1,p2,p3,D,Nat.ne_of_lt D]) rfl ⟨rfl,by repeat first|exact hB|refine Below.setCell ?_ (by first|exact Nat.le_refl _|(have:=hB.size;simp;omega)) _|refine Below.alloc ?_ (by have:=hB.size;simp;omega) _⟩
    ·have J:z1E zs m=false:=by simpa using h1
     have e1:chC zs m c=10:=by simp[chC,h0,q,d,J]
     have e2:cfD zs m c=false:=by simp[cfD,e1]
     have e3:cfK zs m c=false:=by simp[cfK,e1]
     have e4:cfV zs m c=0:=by simp[cfV,e1]
     rw[e1,e2,e3,e4];rw[J]at hh;have A:decide (0<cnt 7 zs 0)=false∨decide (0<cnt 7 zs 0)=true∧decide (0<cnt 7 zs 1)=false:=by
      revert s
      cases decide (0<cnt 7 zs 0)<;>cases decide (0<cnt 7 zs 1)<;>simp
     clear e1 e2 e3 e4 h0 hl h1 s d hB;generalize fl (cnt 7 zs 0)=z7 at*;generalize fl (cnt 7 zs 1)=o7 at*;generalize decide (0<cnt 7 zs 0)=t0 at*;generalize decide (0<cnt 7 zs 1)=t1 at*;rcases A with rfl|⟨rfl,rfl⟩
     all_goals
      go_enter Tryz.func228,Tryz.ntmps228
      go_wp2_with (first|(go_at_call 196;refine(hv _ (h.below (by go_grown))).mono ?_;rintro e w' ⟨rfl,rfl⟩)|(go_at_call 38;refine(z0N _ _ _ _).mono ?_;rintro e w' ⟨rfl,rfl⟩)|(go_at_call 244;refine(C _ (h.below (by go_grown))).mono ?_;rintro e w' ⟨rfl,rfl⟩)|(go_at_call 245;refine(hh _ (h.below (by go_grown))).mono ?_;rintro e w' ⟨rfl,rfl⟩))
      exact bodyPost_ret (v:=.agg #[.int .i64 10,.bool false,.bool false,.int .i64 0]) (by simp[results,Tryz.results228,go_sem]) rfl ⟨rfl,by go_grown⟩
  ·have I:inB c 0 1=false:=by simpa using q
   have e1:chC zs m c=3:=by simp[chC,h0,I]
   have e2:cfD zs m c=false:=by simp[cfD,e1]
   have e3:cfK zs m c=false:=by simp[cfK,e1]
   have e4:cfV zs m c=0:=by simp[cfV,e1]
   rw[e1,e2,e3,e4];clear e1 e2 e3 e4 h0 hl q hB;go_enter Tryz.func228,Tryz.ntmps228
   go_wp2_with (first|(go_at_call 196;refine(hv _ (h.below (by go_grown))).mono ?_;rintro e w' ⟨rfl,rfl⟩)|(go_at_call 38;refine(z0N _ _ _ _).mono ?_;rintro e w' ⟨rfl,rfl⟩))
   exact bodyPost_ret (v:=.agg #[.int .i64 3,.bool false,.bool false,.int .i64 0]) (by simp[results,Tryz.results228,go_sem]) rfl ⟨rfl,by go_grown⟩
 ·have e1:chC zs m c=vf zs 2:=by simp[chC,h0]
  have e2:cfD zs m c=false:=by simp[cfD,e1,h0]
  have e3:cfK zs m c=false:=by simp[cfK,e1,h0]
  have e4:cfV zs m c=0:=by simp[cfV,e1,h0]
  rw[e1,e2,e3,e4];have T:(vf zs 2 !=0)=true:=by simpa using h0
  clear e1 e2 e3 e4 h0 hB;generalize vf zs 2=x at*;go_enter Tryz.func228,Tryz.ntmps228
  go_wp2_with (go_at_call 196;refine(hv _ (h.below (by go_grown))).mono ?_;rintro e w' ⟨rfl,rfl⟩)
  exact bodyPost_ret (v:=.agg #[.int .i64 x,.bool false,.bool false,.int .i64 0]) (by simp[results,Tryz.results228,go_sem]) rfl ⟨rfl,by go_grown⟩
theorem z7k(a:Option Addr)(cap:Nat)(zs:List Int)(w:World)(h:Row .i64 w a zs)(hl:zs.length=3):
  Calls Tryz.prog 202 #[.slice a 3 cap] w fun e w'=>e=.returned (.bool (z43 zs))∧Below w.heap.size w w':=by
 have hc0:=z0I a cap zs 7 0 w h hl (by decide);have hc1:=fun w h=>z0I a cap zs 7 1 w h hl (by decide)
 unfold z43;generalize cnt 7 zs 0=z at*;generalize cnt 7 zs 1=o at*;by_cases hz:0<z
 ·have hd:decide (0<z)=true:=decide_eq_true hz;rw[hd];go_enter Tryz.func202,Tryz.ntmps202
  go_wp2_with fail
  refine hc0.mono ?_;rintro e w1 ⟨rfl,b1⟩;have h1:=hc1 w1 (h.below b1);clear hc0 hc1
  go_wp2_with fail
  refine h1.mono ?_;rintro e w2 ⟨rfl,b2⟩;replace b2:=b1.trans (b2.mono b1.size);clear h1
  go_wp2
  go_ret;exact⟨by simp,b2⟩
 ·have hd:decide (0<z)=false:=decide_eq_false hz;rw[hd];clear hc1;go_enter Tryz.func202,Tryz.ntmps202
  go_wp2_with fail
  refine hc0.mono ?_;rintro e w1 ⟨rfl,b1⟩;clear hc0
  go_wp2
  go_ret;exact⟨by simp,b1⟩
theorem z5I(a:Option Addr)(cap:Nat)(zs:List Int)(m c:Int)(w:World)(h:Row .i64 w a zs)(hl:zs.length=3)(hm:inB m 0 7=true):
  Calls Tryz.prog 203 #[.slice a 3 cap,.int .i64 m,.int .i64 c] w fun e w'=>e=.returned (.agg #[.int .i64 0,.bool (chD (cnt m zs 0) (cnt m zs 1)),.bool (chK (cnt m zs 0) (cnt m zs 1)),.int .i64 (chV (cnt m zs 0) (cnt m zs 1) c)])∧Below w.heap.size w w':=by
 have hB:Below w.heap.size w (w.alloc (.cells #[.int .i64 0,.bool false,.bool false,.int .i64 0] 81)):=by go_grown
 have Bx:=Blk.new w 81 #[.int .i64 0,.bool false,.bool false,.int .i64 0];have hi0:=z15 m zs 0;have hi1:=z15 m zs 1;have hc0:=z0I a cap zs m 0 _ (h.below hB) hl hm;have hc1:=fun w h=>z0I a cap zs m 1 w h hl hm
 generalize cnt m zs 0=z at*;generalize cnt m zs 1=o at*;obtain⟨D,hD⟩:∃D,chD z o=D:=⟨_,rfl⟩
 obtain⟨K,hK⟩:∃K,chK z o=K:=⟨_,rfl⟩
 obtain⟨V,hV⟩:∃V,chV z o c=V:=⟨_,rfl⟩
 rw[hD,hK,hV];unfold chD at hD;unfold chK at hK;unfold chV at hV;by_cases hz:0<z
 ·have HE:Hid (D=decide (2≤z)∧K=false∧V=0):=by
   rw[if_pos hz]at hD hV;rw[decide_eq_true hz]at hK;exact⟨hD.symm,hK.symm,hV.symm⟩
  clear hD hK hV hc1;go_enter Tryz.func203,Tryz.ntmps203
  go_wp2
  refine wp_loop_rounds 1 ?_;rw[rounds_succ]
  go_wp2_with fail
  generalize w.alloc (.cells #[.int .i64 0,.bool false,.bool false,.int .i64 0] 81)=W at*;refine hc0.mono ?_;rintro e w1 ⟨rfl,hb⟩;replace Bx:=Bx.below hb;replace hB:=hB.trans (hb.mono hB.size);obtain⟨p0,p1,p2,p3⟩:=Bx.cel4;obtain⟨f0,f1,f2,f3⟩:=Bx.frz4;clear hb Bx hc0
  go_wp2
  exact bodyPost_ret (v:=.agg #[.int .i64 0,.bool (decide (2≤z)),.bool false,.int .i64 0]) (by simp[results,Tryz.results203,go_sem,p0,p1,p2,p3]) rfl ⟨by rw[HE.out.1,HE.out.2.1,HE.out.2.2],((((hB.setCell (p:=⟨w.heap.size,0,none⟩) (Nat.le_refl _) _).setCell (p:=⟨w.heap.size,1,none⟩) (Nat.le_refl _) _).setCell (p:=⟨w.heap.size,2,none⟩) (Nat.le_refl _) _).setCell (p:=⟨w.heap.size,3,none⟩) (Nat.le_refl _) _)⟩
 ·have HE:Hid (D=decide (2≤o)∧K=!decide (0<o)∧V=if 0<o then 1 else c):=by
   rw[if_neg hz]at hD hV;rw[decide_eq_false hz]at hK;exact⟨hD.symm,by simpa using hK.symm,hV.symm⟩
  clear hD hK hV;go_enter Tryz.func203,Tryz.ntmps203
  go_wp2
  refine wp_loop_rounds 3 ?_;rw[rounds_succ]
  go_wp2_with fail
  generalize w.alloc (.cells #[.int .i64 0,.bool false,.bool false,.int .i64 0] 81)=W at*;refine hc0.mono ?_;rintro e w1 ⟨rfl,hb⟩;replace Bx:=Bx.below hb;replace hB:=hB.trans (hb.mono hB.size);have h1:=hc1 w1 (h.below hB);clear hb hc0 hc1
  go_wp2_with fail
  rw[rounds_succ]
  go_wp2_with fail
  refine h1.mono ?_;rintro e w2 ⟨rfl,hb⟩;replace Bx:=Bx.below hb;replace hB:=hB.trans (hb.mono hB.size);obtain⟨p0,p1,p2,p3⟩:=Bx.cel4;obtain⟨f0,f1,f2,f3⟩:=Bx.frz4;clear hb Bx h1;by_cases ho:0<o
  ·have HE2:Hid (D=decide (2≤o)∧K=false∧V=1):=by
    obtain⟨x,y,z⟩:=HE.out;rw[if_pos ho]at z;rw[decide_eq_true ho]at y;exact⟨x,y,z⟩
   clear HE
   go_wp2
   exact bodyPost_ret (v:=.agg #[.int .i64 0,.bool (decide (2≤o)),.bool false,.int .i64 1]) (by simp[results,Tryz.results203,go_sem,p0,p1,p2,p3]) rfl ⟨by rw[HE2.out.1,HE2.out.2.1,HE2.out.2.2],((((hB.setCell (p:=⟨w.heap.size,0,none⟩) (Nat.le_refl _) _).setCell (p:=⟨w.heap.size,1,none⟩) (Nat.le_refl _) _).setCell (p:=⟨w.heap.size,2,none⟩) (Nat.le_refl _) _).setCell (p:=⟨w.heap.size,3,none⟩) (Nat.le_refl _) _)⟩
  ·have HE2:Hid (D=false∧K=true∧V=c):=by
    obtain⟨x,y,z⟩:=HE.out;rw[if_neg ho]at z;rw[decide_eq_false ho]at y;rw[decide_eq_false (by omega)]at x;exact⟨x,y,z⟩
   clear HE
   go_wp2
   rw[rounds_succ]
   go_wp2
   exact bodyPost_ret (v:=.agg #[.int .i64 0,.bool false,.bool true,.int .i64 c]) (by simp[results,Tryz.results203,go_sem,p0,p1,p2,p3]) rfl ⟨by rw[HE2.out.1,HE2.out.2.1,HE2.out.2.2],((((hB.setCell (p:=⟨w.heap.size,0,none⟩) (Nat.le_refl _) _).setCell (p:=⟨w.heap.size,1,none⟩) (Nat.le_refl _) _).setCell (p:=⟨w.heap.size,2,none⟩) (Nat.le_refl _) _).setCell (p:=⟨w.heap.size,3,none⟩) (Nat.le_refl _) _)⟩
theorem z2q(a:Option Addr)(cap:Nat)(zs:List Int)(m c:Int)(w:World)(h:Row .i64 w a zs)(hm:zs.length≤9223372036854775807):
  Calls Tryz.prog 173 #[.slice a zs.length cap,.int .i64 m,.int .i64 c] w fun e w'=>e=.returned (.agg #[.int .i64 (chC zs m c),.bool (cfD zs m c),.bool (cfK zs m c),.int .i64 (cfV zs m c)])∧Below w.heap.size w w':=by
 obtain⟨C,hC⟩:∃C,chC zs m c=C:=⟨_,rfl⟩
 obtain⟨D,hD⟩:∃D,cfD zs m c=D:=⟨_,rfl⟩
 obtain⟨K,hK⟩:∃K,cfK zs m c=K:=⟨_,rfl⟩
 obtain⟨V,hV⟩:∃V,cfV zs m c=V:=⟨_,rfl⟩
 rw[hC,hD,hK,hV];have HN:Hid (∀x,chC zs m c=x→x≠0→C=x∧D=false∧K=false∧V=0):=by
  intro x hx hn;refine⟨hC.symm.trans hx,?_,?_,?_⟩
  ·rw[←hD];simp[cfD,hx,hn]
  ·rw[←hK];simp[cfK,hx,hn]
  ·rw[←hV];simp[cfV,hx,hn]
 have HY:Hid (chC zs m c=0→C=0∧D=chD (cnt m zs 0) (cnt m zs 1)∧K=chK (cnt m zs 0) (cnt m zs 1)∧V=chV (cnt m zs 0) (cnt m zs 1) c):=by
  intro hx;refine⟨hC.symm.trans hx,?_,?_,?_⟩
  ·rw[←hD];simp[cfD,hx]
  ·rw[←hK];simp[cfK,hx]
  ·rw[←hV];simp[cfV,hx]
 clear hC hD hK hV;have hB:Below w.heap.size w (w.alloc (.cells #[.int .i64 0,.bool false,.bool false,.int .i64 0] 81)):=by go_grown
 have Bx:=Blk.new w 81 #[.int .i64 0,.bool false,.bool false,.int .i64 0];have hv:=z0W a cap zs 2 _ (h.below hB) hm;go_enter Tryz.func173,Tryz.ntmps173
 go_wp2_with fail
 generalize w.alloc (.cells #[.int .i64 0,.bool false,.bool false,.int .i64 0] 81)=W at*;refine hv.mono ?_;rintro e w1 ⟨rfl,hb⟩;replace Bx:=Bx.below hb;replace hB:=hB.trans (hb.mono hB.size);clear hv hb;by_cases h0:vf zs 2=0
 ·have hl:=z0A h0;rw[h0,hl];by_cases d:inB c 0 1=true
  ·have z:=z7k a cap zs w1 (h.below hB) hl
   go_wp2_with fail
   refine(z0E _ _ _ _).mono ?_;rintro e w' ⟨rfl,hw⟩;replace hw:=hw.symm;subst hw;rw[d]
   go_wp2_with fail
   refine z.mono ?_;rintro e w2 ⟨rfl,hb⟩;replace Bx:=Bx.below hb;replace hB:=hB.trans (hb.mono hB.size);clear hb z;by_cases r:z43 zs=true
   ·have HE:=HN.out 1 (by simp[chC,h0,d,r]) (by omega);have HE:Hid _:=HE;obtain⟨p0,p1,p2,p3⟩:=Bx.cel4;obtain⟨f0,f1,f2,f3⟩:=Bx.frz4;rw[r];clear HN HY Bx h0 hl
    go_wp2
    exact bodyPost_ret (v:=.agg #[.int .i64 1,.bool false,.bool false,.int .i64 0]) (by simp[results,Tryz.results173,go_sem,p0,p1,p2,p3]) rfl ⟨by rw[HE.out.1,HE.out.2.1,HE.out.2.2.1,HE.out.2.2.2],((((hB.setCell (p:=⟨w.heap.size,0,none⟩) (Nat.le_refl _) _).setCell (p:=⟨w.heap.size,1,none⟩) (Nat.le_refl _) _).setCell (p:=⟨w.heap.size,2,none⟩) (Nat.le_refl _) _).setCell (p:=⟨w.heap.size,3,none⟩) (Nat.le_refl _) _)⟩
   ·have q:z43 zs=false:=by simpa using r
    have hh:=z37 a cap zs m w2 (h.below hB) hl;rw[q]
    go_wp2_with fail
    refine hh.mono ?_;rintro e w3 ⟨rfl,hb⟩;replace Bx:=Bx.below hb;replace hB:=hB.trans (hb.mono hB.size);clear hb hh;by_cases h1:z1E zs m=true
    ·have HE:=HY.out (by simp[chC,h0,d,q,h1]);have HE:Hid _:=HE;have A:=z5I a cap zs m c w3 (h.below hB) hl (z2h h1);rw[h1];generalize chD (cnt m zs 0) (cnt m zs 1)=D1 at*;generalize chK (cnt m zs 0) (cnt m zs 1)=K1 at*;generalize chV (cnt m zs 0) (cnt m zs 1) c=V1 at*
     go_wp2_with fail
     refine A.mono ?_;rintro e w4 ⟨rfl,hb⟩;replace Bx:=Bx.below hb;replace hB:=hB.trans (hb.mono hB.size);obtain⟨p0,p1,p2,p3⟩:=Bx.cel4;obtain⟨f0,f1,f2,f3⟩:=Bx.frz4;clear hb A HN HY Bx h0 hl
     go_wp2
     exact bodyPost_ret (v:=.agg #[.int .i64 0,.bool D1,.bool K1,.int .i64 V1]) (by simp[results,Tryz.results173,go_sem,p0,p1,p2,p3]) rfl ⟨by rw[HE.out.1,HE.out.2.1,HE.out.2.2.1,HE.out.2.2.2],((((hB.setCell (p:=⟨w.heap.size,0,none⟩) (Nat.le_refl _) _).setCell (p:=⟨w.heap.size,1,none⟩) (Nat.le_refl _) _).setCell (p:=⟨w.heap.size,2,none⟩) (Nat.le_refl _) _).setCell (p:=⟨w.heap.size,3,none⟩) (Nat.le_refl _) _)⟩
    ·have y:z1E zs m=false:=by simpa using h1
     have HE:=HN.out 10 (by simp[chC,h0,d,q,y]) (by omega);have HE:Hid _:=HE;rw[y];obtain⟨p0,p1,p2,p3⟩:=Bx.cel4;obtain⟨f0,f1,f2,f3⟩:=Bx.frz4;clear HN HY Bx h0 hl
     go_wp2
     exact bodyPost_ret (v:=.agg #[.int .i64 10,.bool false,.bool false,.int .i64 0]) (by simp[results,Tryz.results173,go_sem,p0,p1,p2,p3]) rfl ⟨by rw[HE.out.1,HE.out.2.1,HE.out.2.2.1,HE.out.2.2.2],((((hB.setCell (p:=⟨w.heap.size,0,none⟩) (Nat.le_refl _) _).setCell (p:=⟨w.heap.size,1,none⟩) (Nat.le_refl _) _).setCell (p:=⟨w.heap.size,2,none⟩) (Nat.le_refl _) _).setCell (p:=⟨w.heap.size,3,none⟩) (Nat.le_refl _) _)⟩
  ·have s:inB c 0 1=false:=by simpa using d
   have HE:=HN.out 3 (by simp[chC,h0,s]) (by omega);have HE:Hid _:=HE;obtain⟨p0,p1,p2,p3⟩:=Bx.cel4;obtain⟨f0,f1,f2,f3⟩:=Bx.frz4;clear HN HY Bx h0 hl
   go_wp2_with (go_at_call 55;refine(z0E _ _ _ _).mono ?_;rintro e w' ⟨rfl,hw⟩;replace hw:=hw.symm;subst hw)
   exact bodyPost_ret (v:=.agg #[.int .i64 3,.bool false,.bool false,.int .i64 0]) (by simp[results,Tryz.results173,go_sem,p0,p1,p2,p3]) rfl ⟨by rw[HE.out.1,HE.out.2.1,HE.out.2.2.1,HE.out.2.2.2],((((hB.setCell (p:=⟨w.heap.size,0,none⟩) (Nat.le_refl _) _).setCell (p:=⟨w.heap.size,1,none⟩) (Nat.le_refl _) _).setCell (p:=⟨w.heap.size,2,none⟩) (Nat.le_refl _) _).setCell (p:=⟨w.heap.size,3,none⟩) (Nat.le_refl _) _)⟩
 ·have HE:=HN.out (vf zs 2) (by simp[chC,h0]) h0;have HE:Hid _:=HE;have E:(vf zs 2 !=0)=true:=by simpa using h0
  obtain⟨p0,p1,p2,p3⟩:=Bx.cel4;obtain⟨f0,f1,f2,f3⟩:=Bx.frz4;clear HN HY Bx h0;generalize vf zs 2=x at*
  go_wp2
  exact bodyPost_ret (v:=.agg #[.int .i64 x,.bool false,.bool false,.int .i64 0]) (by simp[results,Tryz.results173,go_sem,p0,p1,p2,p3]) rfl ⟨by rw[HE.out.1,HE.out.2.1,HE.out.2.2.1,HE.out.2.2.2],((((hB.setCell (p:=⟨w.heap.size,0,none⟩) (Nat.le_refl _) _).setCell (p:=⟨w.heap.size,1,none⟩) (Nat.le_refl _) _).setCell (p:=⟨w.heap.size,2,none⟩) (Nat.le_refl _) _).setCell (p:=⟨w.heap.size,3,none⟩) (Nat.le_refl _) _)⟩
def z2G(f:Nat→Bool)(n:Nat):Bool:=(List.range n).any f
theorem z3N(f:Nat→Bool)(k:Nat)(h:z2G f k=false)(hk:f k=false):z2G f (k+1)=false:=by
 unfold z2G at*;rw[List.range_succ,List.any_append,h,List.any_cons,hk];rfl
theorem z26(f:Nat→Bool)(k:Nat)(hk:k<8)(h:f k=true):z2G f 8=true:=by
 unfold z2G;rw[List.any_eq_true];exact⟨k,List.mem_range.2 hk,h⟩
def pB(zs:List Int)(v:Int)(k:Nat):Bool:=(pfC zs k==0) && (pfV zs k==v)
def mayP(zs:List Int)(v:Int):Bool:=z2G (pB zs v) 8
def rB(zs:List Int)(v:Int)(k:Nat):Bool:=(chC zs k v==0) && (cfV zs k v==v)
def mayR(zs:List Int)(v:Int):Bool:=z2G (rB zs v) 8
theorem z45(f:Nat→Bool)(h:∀k,f k=false)(n:Nat):z2G f n=false:=by
 unfold z2G;rw[List.any_eq_false];intro x _;rw[h x];decide
theorem z92(zs:List Int)(v:Int)(h:inB v 0 1=false):mayR zs v=false:=by
 refine z45 _ (fun k=>?_) 8;have hc:(chC zs k v==0)=false:=by
  rw[beq_eq_false_iff_ne];unfold chC;rw[h];split
  ·simp
  ·assumption
 simp only[rB,hc,Bool.false_and]
theorem z5J(a:Option Addr)(cap:Nat)(zs:List Int)(v:Int)(w:World)(hG:Rul w)(h:Row .i64 w a zs)(hm:zs.length≤9223372036854775807):
  Calls Tryz.prog 218 #[.slice a zs.length cap,.int .i64 v] w fun e w'=>e=.returned (.bool (mayP zs v))∧Below w.heap.size w w':=by
 have HT:Hid (∀k,k<8→pB zs v k=true→mayP zs v=true):=fun k hk h=>z26 _ k hk h
 have HF:Hid (z2G (pB zs v) 8=false→mayP zs v=false):=fun h=>h
 generalize mayP zs v=E at HT HF⊢;go_enter Tryz.func218,Tryz.ntmps218
 go_wp2
 go_loopw[6] (fun i wr=>∃k:Nat,k≤8∧i=.int .i64 k∧z2G (pB zs v) k=false∧Below w.heap.size w wr) (fun i _=>8-(intOf i).toNat)
 case atStart=>exact⟨0,Nat.zero_le _,rfl,rfl,Below.refl _ _⟩
 case round=>
  obtain⟨k,hk,rfl,c,hb⟩:=hrel;by_cases y:k<8
  ·have hc:=z5G a cap zs k wr (hG.below hb) (h.below hb) hm;have HS:Hid (pB zs v k=false→z2G (pB zs v) (k+1)=false):=fun h=>z3N _ k c h
   have HY:Hid (pB zs v k=true→E=true):=fun h=>HT.out k y h
   have q:pB zs v k=((pfC zs k==0) && (pfV zs k==v)):=rfl;rw[q]at HS HY;clear HT HF c q;generalize pfC zs k=C at*;generalize pfV zs k=V at*
   go_wp2_with fail
   refine hc.mono ?_;rintro e w1 ⟨rfl,d⟩;replace hb:=hb.trans (d.mono hb.size);clear hc d;by_cases h1:C=0
   ·subst h1;by_cases h2:(V==v)=true
    ·have HE:Hid (E=true):=HY.out (by rw[h2];rfl);clear HS HY
     go_wp2
     go_ret;exact⟨by rw[HE.out];rfl,by repeat first|exact hb|refine Below.alloc ?_ (by have:=hb.size;simp;omega) _⟩
    ·have s:(V==v)=false:=by simpa using h2
     have R:Hid (z2G _ (k+1)=false):=HS.out (by rw[s];rfl);clear HS HY h2
     go_wp2
     go_roundw
     case rel=>exact⟨k+1,by omega,by go_num,R.out,by repeat first|exact hb|refine Below.alloc ?_ (by have:=hb.size;simp;omega) _⟩
     case measure=>simp[intOf];omega
   ·have r:(C==0)=false:=by simpa using h1
    have R:Hid (z2G _ (k+1)=false):=HS.out (by rw[r];rfl);clear HS HY h1
    go_wp2
    go_roundw
    case rel=>exact⟨k+1,by omega,by go_num,R.out,by repeat first|exact hb|refine Below.alloc ?_ (by have:=hb.size;simp;omega) _⟩
    case measure=>simp[intOf];omega
  ·have x:k=8:=by omega
   subst x;have HE:Hid (E=false):=HF.out c;clear HT HF c
   go_wp2
   go_ret;exact⟨by rw[HE.out];rfl,hb⟩
theorem z5K(a:Option Addr)(cap:Nat)(zs:List Int)(v:Int)(w:World)(h:Row .i64 w a zs)(hm:zs.length≤9223372036854775807):
  Calls Tryz.prog 165 #[.slice a zs.length cap,.int .i64 v] w fun e w'=>e=.returned (.bool (mayP zs v))∧Below w.heap.size w w':=by
 have HT:Hid (∀k,k<8→pB zs v k=true→mayP zs v=true):=fun k hk h=>z26 _ k hk h
 have HF:Hid (z2G (pB zs v) 8=false→mayP zs v=false):=fun h=>h
 generalize mayP zs v=E at HT HF⊢;go_enter Tryz.func165,Tryz.ntmps165
 go_wp2
 go_loopw[5] (fun i wr=>∃k:Nat,k≤8∧i=.int .i64 k∧z2G (pB zs v) k=false∧Below w.heap.size w wr) (fun i _=>8-(intOf i).toNat)
 case atStart=>exact⟨0,Nat.zero_le _,rfl,rfl,Below.refl _ _⟩
 case round=>
  obtain⟨k,hk,rfl,c,hb⟩:=hrel;by_cases y:k<8
  ·have hc:=z3v a cap zs k wr (h.below hb) hm;have HS:Hid (pB zs v k=false→z2G (pB zs v) (k+1)=false):=fun h=>z3N _ k c h
   have HY:Hid (pB zs v k=true→E=true):=fun h=>HT.out k y h
   have q:pB zs v k=((pfC zs k==0) && (pfV zs k==v)):=rfl;rw[q]at HS HY;clear HT HF c q;generalize pfC zs k=C at*;generalize pfV zs k=V at*
   go_wp2_with fail
   refine hc.mono ?_;rintro e w1 ⟨rfl,d⟩;replace hb:=hb.trans (d.mono hb.size);clear hc d;by_cases h1:C=0
   ·subst h1;by_cases h2:(V==v)=true
    ·have HE:Hid (E=true):=HY.out (by rw[h2];rfl);clear HS HY
     go_wp2
     go_ret;exact⟨by rw[HE.out];rfl,by repeat first|exact hb|refine Below.alloc ?_ (by have:=hb.size;simp;omega) _⟩
    ·have s:(V==v)=false:=by simpa using h2
     have R:Hid (z2G _ (k+1)=false):=HS.out (by rw[s];rfl);clear HS HY h2
     go_wp2
     go_roundw
     case rel=>exact⟨k+1,by omega,by go_num,R.out,by repeat first|exact hb|refine Below.alloc ?_ (by have:=hb.size;simp;omega) _⟩
     case measure=>simp[intOf];omega
   ·have r:(C==0)=false:=by simpa using h1
    have R:Hid (z2G _ (k+1)=false):=HS.out (by rw[r];rfl);clear HS HY h1
    go_wp2
    go_roundw
    case rel=>exact⟨k+1,by omega,by go_num,R.out,by repeat first|exact hb|refine Below.alloc ?_ (by have:=hb.size;simp;omega) _⟩
    case measure=>simp[intOf];omega
  ·have x:k=8:=by omega
   subst x;have HE:Hid (E=false):=HF.out c;clear HT HF c
   go_wp2
   go_ret;exact⟨by rw[HE.out];rfl,hb⟩
theorem z3w(a:Option Addr)(cap:Nat)(zs:List Int)(v:Int)(w:World)(hG:Rul w)(h:Row .i64 w a zs)(hm:zs.length≤9223372036854775807):
  Calls Tryz.prog 216 #[.slice a zs.length cap,.int .i64 v] w fun e w'=>e=.returned (.bool (mayR zs v))∧Below w.heap.size w w':=by
 have HT:Hid (∀k,k<8→rB zs v k=true→mayR zs v=true):=fun k hk h=>z26 _ k hk h
 have HF:Hid (z2G (rB zs v) 8=false→mayR zs v=false):=fun h=>h
 generalize mayR zs v=E at HT HF⊢;go_enter Tryz.func216,Tryz.ntmps216
 go_wp2
 go_loopw[7] (fun i wr=>∃k:Nat,k≤8∧i=.int .i64 k∧z2G (rB zs v) k=false∧Below w.heap.size w wr) (fun i _=>8-(intOf i).toNat)
 case atStart=>exact⟨0,Nat.zero_le _,rfl,rfl,Below.refl _ _⟩
 case round=>
  obtain⟨k,hk,rfl,c,hb⟩:=hrel;by_cases y:k<8
  ·have hc:=z4F a cap zs k v wr (hG.below hb) (h.below hb) hm;have HS:Hid (rB zs v k=false→z2G (rB zs v) (k+1)=false):=fun h=>z3N _ k c h
   have HY:Hid (rB zs v k=true→E=true):=fun h=>HT.out k y h
   have q:rB zs v k=((chC zs k v==0) && (cfV zs k v==v)):=rfl;rw[q]at HS HY;clear HT HF c q;generalize chC zs k v=C at*;generalize cfD zs k v=D at*;generalize cfK zs k v=K at*;generalize cfV zs k v=V at*
   go_wp2_with fail
   refine hc.mono ?_;rintro e w1 ⟨rfl,d⟩;replace hb:=hb.trans (d.mono hb.size);clear hc d;by_cases h1:C=0
   ·subst h1;by_cases h2:(V==v)=true
    ·have HE:Hid (E=true):=HY.out (by rw[h2];rfl);clear HS HY
     go_wp2
     go_ret;exact⟨by rw[HE.out];rfl,by repeat first|exact hb|refine Below.alloc ?_ (by have:=hb.size;simp;omega) _⟩
    ·have s:(V==v)=false:=by simpa using h2
     have R:Hid (z2G _ (k+1)=false):=HS.out (by rw[s];rfl);clear HS HY h2
     go_wp2
     go_roundw
     case rel=>exact⟨k+1,by omega,by go_num,R.out,by repeat first|exact hb|refine Below.alloc ?_ (by have:=hb.size;simp;omega) _⟩
     case measure=>simp[intOf];omega
   ·have r:(C==0)=false:=by simpa using h1
    have R:Hid (z2G _ (k+1)=false):=HS.out (by rw[r];rfl);clear HS HY h1
    go_wp2
    go_roundw
    case rel=>exact⟨k+1,by omega,by go_num,R.out,by repeat first|exact hb|refine Below.alloc ?_ (by have:=hb.size;simp;omega) _⟩
    case measure=>simp[intOf];omega
  ·have x:k=8:=by omega
   subst x;have HE:Hid (E=false):=HF.out c;clear HT HF c
   go_wp2
   go_ret;exact⟨by rw[HE.out];rfl,hb⟩
theorem z3x(a:Option Addr)(cap:Nat)(zs:List Int)(v:Int)(w:World)(h:Row .i64 w a zs)(hm:zs.length≤9223372036854775807):
  Calls Tryz.prog 166 #[.slice a zs.length cap,.int .i64 v] w fun e w'=>e=.returned (.bool (mayR zs v))∧Below w.heap.size w w':=by
 have HT:Hid (∀k,k<8→rB zs v k=true→mayR zs v=true):=fun k hk h=>z26 _ k hk h
 have HF:Hid (z2G (rB zs v) 8=false→mayR zs v=false):=fun h=>h
 by_cases r:inB v 0 1=true
 case neg=>
  have s:inB v 0 1=false:=by simpa using r
  rw[z92 zs v s];clear r HT HF;go_enter Tryz.func166,Tryz.ntmps166
  go_wp2_with (go_at_call 55;refine(z0E _ _ _ _).mono ?_;rintro e w' ⟨rfl,rfl⟩)
  go_ret;exact⟨rfl,Below.refl _ _⟩
 generalize mayR zs v=E at HT HF⊢;go_enter Tryz.func166,Tryz.ntmps166
 go_wp2_with (go_at_call 55;refine(z0E _ _ _ _).mono ?_;rintro e w' ⟨rfl,hw⟩;replace hw:=hw.symm;subst hw)
 go_loopw[5] (fun i wr=>∃k:Nat,k≤8∧i=.int .i64 k∧z2G (rB zs v) k=false∧Below w.heap.size w wr) (fun i _=>8-(intOf i).toNat)
 case atStart=>exact⟨0,Nat.zero_le _,rfl,rfl,Below.refl _ _⟩
 case round=>
  obtain⟨k,hk,rfl,c,hb⟩:=hrel;by_cases A:k<8
  ·have hc:=z2q a cap zs k v wr (h.below hb) hm;have HS:Hid (rB zs v k=false→z2G (rB zs v) (k+1)=false):=fun h=>z3N _ k c h
   have HY:Hid (rB zs v k=true→E=true):=fun h=>HT.out k A h
   have q:rB zs v k=((chC zs k v==0) && (cfV zs k v==v)):=rfl;rw[q]at HS HY;clear HT HF c q;generalize chC zs k v=C at*;generalize cfD zs k v=D at*;generalize cfK zs k v=K at*;generalize cfV zs k v=V at*
   go_wp2_with fail
   refine hc.mono ?_;rintro e w1 ⟨rfl,d⟩;replace hb:=hb.trans (d.mono hb.size);clear hc d;by_cases h1:C=0
   ·subst h1;by_cases h2:(V==v)=true
    ·have HE:Hid (E=true):=HY.out (by rw[h2];rfl);clear HS HY
     go_wp2
     go_ret;exact⟨by rw[HE.out];rfl,by repeat first|exact hb|refine Below.alloc ?_ (by have:=hb.size;simp;omega) _⟩
    ·have y:(V==v)=false:=by simpa using h2
     have R:Hid (z2G _ (k+1)=false):=HS.out (by rw[y];rfl);clear HS HY h2
     go_wp2
     go_roundw
     case rel=>exact⟨k+1,by omega,by go_num,R.out,by repeat first|exact hb|refine Below.alloc ?_ (by have:=hb.size;simp;omega) _⟩
     case measure=>simp[intOf];omega
   ·have x:(C==0)=false:=by simpa using h1
    have R:Hid (z2G _ (k+1)=false):=HS.out (by rw[x];rfl);clear HS HY h1
    go_wp2
    go_roundw
    case rel=>exact⟨k+1,by omega,by go_num,R.out,by repeat first|exact hb|refine Below.alloc ?_ (by have:=hb.size;simp;omega) _⟩
    case measure=>simp[intOf];omega
  ·have z:k=8:=by omega
   subst z;have HE:Hid (E=false):=HF.out c;clear HT HF c
   go_wp2
   go_ret;exact⟨by rw[HE.out];rfl,hb⟩
abbrev v4:List Int:=[0,1,2,3]
theorem z47{most x:Int}(hm:most=1∨most=2)(h:vOk most x=true):x∈v4:=by
 unfold vOk inB at h;rw[Bool.or_eq_true,decide_eq_true_eq,beq_iff_eq]at h;exact z8S (by omega)
theorem z1S{zs:List Int}{most:Int}(hm:most=1∨most=2)(h:vf zs most=0):∃x∈v4,∃y∈v4,∃z∈v4,zs=[x,y,z]:=by
 have hl:=z0A h;obtain⟨x,y,z,rfl⟩:=z4D hl;unfold vf at h;rw[if_pos hl]at h;have ha:[x,y,z].all (vOk most)=true:=by
  by_cases hx:[x,y,z].all (vOk most)=true
  ·exact hx
  ·rw[if_neg hx]at h;simp at h
 simp only[List.all_cons,List.all_nil,Bool.and_true,Bool.and_eq_true]at ha;exact⟨x,z47 hm ha.1,y,z47 hm ha.2.1,z,z47 hm ha.2.2,rfl⟩
theorem z6P{m:Int}(h:inB m 0 7=true):∃k:Nat,k<8∧m=(k:Int):=by
 have:=of_decide_eq_true h;exact⟨m.toNat,by omega,by omega⟩
theorem z6i{zs:List Int}{m:Int}(h:pfC zs m=0):vf zs 1=0∧z1E zs m=true:=by
 unfold pfC at h;by_cases h0:vf zs 1=0
 ·rw[if_pos h0]at h;by_cases h1:z1E zs m=true
  ·exact⟨h0,h1⟩
  ·rw[if_neg h1]at h;simp at h
 ·rw[if_neg h0]at h;exact absurd h h0
theorem z7W{zs:List Int}{m c:Int}(h:chC zs m c=0):vf zs 2=0∧inB c 0 1=true∧z43 zs=false∧z1E zs m=true:=by
 unfold chC at h;by_cases h0:vf zs 2=0
 ·rw[if_pos h0]at h;by_cases hc:inB c 0 1=true
  ·rw[if_pos hc]at h;by_cases hb:z43 zs=true
   ·rw[if_pos hb]at h;simp at h
   ·rw[if_neg hb]at h;by_cases h1:z1E zs m=true
    ·exact⟨h0,hc,by simpa using hb,h1⟩
    ·rw[if_neg h1]at h;simp at h
  ·rw[if_neg hc]at h;simp at h
 ·rw[if_neg h0]at h;exact absurd h h0
theorem q1y{zs:List Int}{m c:Int}(h0:vf zs 2=0)(hc:inB c 0 1=true)(hb:z43 zs=false)(h1:z1E zs m=true):chC zs m c=0:=by
 simp[chC,h0,hc,hb,h1]
theorem z81{zs:List Int}{m:Int}(h:pfC zs m=0):mayP zs (pfV zs m)=true:=by
 obtain⟨h0,h1⟩:=z6i h;obtain⟨k,hk,rfl⟩:=z6P (z2h h1);exact z26 _ k hk (by simp[pB,h])
theorem z93:∀x∈v4,∀y∈v4,∀z∈v4,(mayP [x,y,z] 0 && mayP [x,y,z] 1)=false:=by decide+kernel
theorem z82{zs:List Int}(h:mayP zs 0=true):mayP zs 1=false:=by
 by_cases h0:vf zs 1=0
 ·obtain⟨x,hx,y,hy,z,hz,rfl⟩:=z1S (Or.inl rfl) h0;have:=z93 x hx y hy z hz;rw[h,Bool.true_and]at this;exact this
 ·refine z45 _ (fun k=>?_) 8;have hc:(pfC zs k==0)=false:=by
   rw[beq_eq_false_iff_ne];intro e;exact h0 (z6i e).1
  simp only[pB,hc,Bool.false_and]
theorem z5L{zs:List Int}{m c:Int}(h:chC zs m c=0):cfV zs m c=chV (cnt m zs 0) (cnt m zs 1) c:=by simp[cfV,h]
theorem z9D{zs:List Int}{m c:Int}(h:chC zs m c=0):0≤cfV zs m c∧cfV zs m c≤1:=by
 have hc:=of_decide_eq_true (z7W h).2.1;rw[z5L h];unfold chV;split
 ·omega
 ·split<;>omega
theorem z83{zs:List Int}{m c:Int}(h:chC zs m c=0):mayR zs (cfV zs m c)=true:=by
 obtain⟨h0,hc,hb,h1⟩:=z7W h;have hV:=z9D h;have hV':inB (cfV zs m c) 0 1=true:=decide_eq_true hV;have h2:=q1y h0 hV' hb h1;have h3:cfV zs m (cfV zs m c)=cfV zs m c:=by
  rw[z5L h2,z5L h];unfold chV;split
  ·rfl
  ·split<;>rfl
 obtain⟨k,hk,rfl⟩:=z6P (z2h h1);refine z26 _ k hk ?_;simp only[rB,h2,h3];simp
structure Out (F:List Nat) (w w':World):Prop where
 os:w'.os=w.os
 tape:w'.tape=w.tape
 output:w'.output=w.output
 size:w.heap.size≤w'.heap.size
 block:∀k,k<w.heap.size→k∉F→w'.heap[k]?=w.heap[k]?
theorem Out.refl(F:List Nat)(w:World):Out F w w:=⟨rfl,rfl,rfl,Nat.le_refl _,fun _ _ _=>rfl⟩
theorem Out.trans{F:List Nat}{a b c:World}(h:Out F a b)(k:Out F b c):Out F a c:=
 ⟨k.os.trans h.os,k.tape.trans h.tape,k.output.trans h.output,Nat.le_trans h.size k.size,fun i hi hn=>(k.block i (Nat.lt_of_lt_of_le hi h.size) hn).trans (h.block i hi hn)⟩
theorem Out.mono{F G:List Nat}{w w':World}(h:Out F w w')(hF:∀k∈F,k∈G):Out G w w':=⟨h.os,h.tape,h.output,h.size,fun k hk hn=>h.block k hk (fun e=>hn (hF k e))⟩
theorem Out.of_below{F:List Nat}{w w':World}(h:Below w.heap.size w w'):Out F w w':=⟨h.os,h.tape,h.output,h.size,fun k hk _=>h.block k hk⟩
theorem Out.of_grown{w w':World}{row:Option Nat}(h:w.grownBy w' row):Out row.toList w w':=⟨h.os,h.tape,h.output,h.size,fun k hk hn=>h.block k hk (fun e=>hn (by rw[←e];simp))⟩
theorem Out.setCell(w:World)(g j:Nat)(u:Value):Out [g] w (w.setCell ⟨g,j,none⟩ u):=⟨rfl,rfl,rfl,by simp,fun k _ hn=>Below.heap_setCell w _ _ k (by simpa using hn)⟩
theorem Out.keep{B:Nat}{F:List Nat}{a w w':World}(h:Below B a w)(ho:Out F w w')(hB:B≤w.heap.size)(hF:∀k∈F,B≤k):Below B a w':=
 ⟨ho.os.trans h.os,ho.tape.trans h.tape,ho.output.trans h.output,Nat.le_trans h.size ho.size,fun k hk=>(ho.block k (by omega) (fun e=>by have:=hF k e;omega)).trans (h.block k hk)⟩
def blk(v:Value):List Nat:=v.ownBlock.toList
theorem z48{w w':World}{base e s n:Nat}{v:Value}{xs:List Value}{F:List Nat}(h:w.ownsRow base e s v n xs)(ho:Out F w w')(hd:∀k∈blk v,k∉F):w'.ownsRow base e s v n xs:=by
 refine⟨h.1,?_⟩;rcases h.2 with h2|⟨g,cap,cur,hv,hg,hh,r⟩
 ·exact Or.inl h2
 ·refine Or.inr ⟨g,cap,cur,hv,hg,?_,r⟩;rw[ho.block g (Array.getElem?_eq_some_iff.1 hh).1 (hd g (by rw[hv];simp[blk,Value.ownBlock]))];exact hh
structure Kind (P:Type) where
 ty:Nat
 size:Nat
 cells:P→List Value
 own:World→P→Prop
 rd:World→P→Prop
 foot:P→List Nat
 len:∀p,(cells p).length=size
 own_rd:∀ {w p},own w p→rd w p
 own_out:∀ {w w' p F},own w p→Out F w w'→(∀k∈foot p,k∉F)→own w' p
 own_lt:∀ {w p},own w p→∀k∈foot p,k<w.heap.size
 rd_below:∀ {w w' p},rd w p→Below w.heap.size w w'→rd w' p
section
variable {P:Type} (K:Kind P)
def Kind.row(ps:List P):List Value:=ps.flatMap K.cells
def Kind.At(w:World)(v:Value)(ps:List P):Prop:=∃a cap,v=.slice a ps.length cap∧Lies w a (K.row ps)∧∀p∈ps,K.rd w p
def Kind.Own(w:World)(v:Value)(ps:List P):Prop:=w.ownsRow 0 K.ty K.size v ps.length (K.row ps)∧∀p∈ps,K.own w p
def Kind.fp(v:Value)(ps:List P):List Nat:=blk v++ps.flatMap K.foot
end
section
variable {P:Type} {K:Kind P} {w w':World} {v:Value} {ps:List P}
theorem Kind.row_length(ps:List P):(K.row ps).length=ps.length*K.size:=by
 induction ps with
 |nil=>simp[Kind.row]
 |cons p r ih=>
  simp only[Kind.row,List.flatMap_cons,List.length_append,K.len,List.length_cons]at ih⊢;rw[ih,Nat.add_mul];omega
theorem Kind.row_get(ps:List P)(i:Nat)(hi:i<ps.length)(j:Nat)(hj:j<K.size):(K.row ps)[i*K.size+j]?=(K.cells ps[i])[j]?:=by
 induction ps generalizing i with
 |nil=>simp at hi
 |cons p r ih=>
  simp only[Kind.row,List.flatMap_cons]
  cases i with
  |zero=>
   rw[List.getElem?_append_left (by rw[K.len];omega)];simp
  |succ i=>
   rw[List.getElem?_append_right (by rw[K.len,Nat.add_mul];omega),K.len];have:=ih i (by simpa using hi);simp only[Kind.row]at this;rw[show(i+1)*K.size+j-K.size=i*K.size+j by rw[Nat.add_mul];omega,this];simp
theorem Kind.Own.at(h:K.Own w v ps):K.At w v ps:=by
 obtain⟨a,c,rfl⟩:=z0p h.1;exact⟨a,c,rfl,Lies.own h.1,fun p hp=>K.own_rd (h.2 p hp)⟩
theorem Kind.At.below(h:K.At w v ps)(hb:Below w.heap.size w w'):K.At w' v ps:=by
 obtain⟨a,c,e,hl,hr⟩:=h;exact⟨a,c,e,hl.below hb,fun p hp=>K.rd_below (hr p hp) hb⟩
theorem Kind.At.shape(h:K.At w v ps):∃a cap,v=.slice a ps.length cap:=by
 obtain⟨a,c,e,_⟩:=h;exact⟨a,c,e⟩
theorem Kind.Own.shape(h:K.Own w v ps):∃a cap,v=.slice a ps.length cap:=z0p h.1
theorem Kind.Own.out{F:List Nat}(h:K.Own w v ps)(ho:Out F w w')(hd:∀k∈K.fp v ps,k∉F):K.Own w' v ps:=by
 refine⟨z48 h.1 ho (fun k hk=>hd k (by simp[Kind.fp,hk])),fun p hp=>K.own_out (h.2 p hp) ho (fun k hk=>hd k ?_)⟩;simp only[Kind.fp,List.mem_append,List.mem_flatMap];exact Or.inr ⟨p,hp,hk⟩
theorem Kind.Own.below(h:K.Own w v ps)(hb:Below w.heap.size w w'):K.Own w' v ps:=h.out (Out.of_below (F:=[]) hb) (fun _ _=>by simp)
theorem Kind.Own.lt(h:K.Own w v ps):∀k∈K.fp v ps,k<w.heap.size:=by
 intro k hk;simp only[Kind.fp,List.mem_append,List.mem_flatMap]at hk;rcases hk with hk|⟨p,hp,hk⟩
 ·exact(h.1.lt k (by simpa[blk]using hk)).2
 ·exact K.own_lt (h.2 p hp) k hk
theorem Kind.At.cell{a:Option Addr}{n cap:Nat}(h:K.At w (.slice a n cap) ps)(hs:0<K.size)(i:Nat)(hi:i<ps.length):
  ∃b off,a=some ⟨b,off,none⟩∧b<w.heap.size∧(∀j x,(K.cells ps[i])[j]?=some x→w.cell? ⟨b,off+i*K.size+j,none⟩=some x)∧K.rd w ps[i]:=by
 obtain⟨a',c,e,hl,hr⟩:=h;simp only[Value.slice.injEq]at e;obtain⟨rfl,_,_⟩:=e;rcases hl with h0|⟨b,off,ha,hlt,hc⟩
 ·have:=Kind.row_length (K:=K) ps;rw[h0]at this;simp only[List.length_nil]at this;have h1:1*K.size≤ps.length*K.size:=Nat.mul_le_mul_right _ (by omega);omega
 ·refine⟨b,off,ha,hlt,fun j x hx=>?_,hr _ (List.getElem_mem hi)⟩;have hj:j<K.size:=by rw[←K.len ps[i]];exact(List.getElem?_eq_some_iff.1 hx).1
  rw[show off+i*K.size+j=off+(i*K.size+j) by omega];exact hc _ _ (by rw[Kind.row_get ps i hi j hj];exact hx)
theorem Kind.Own.blkOf{a:Option Addr}{n cap:Nat}(h:K.Own w (.slice a n cap) ps)(hn:0<ps.length):∃g,a=some ⟨g,0,none⟩:=by
 rcases h.1.2 with⟨he,h0⟩|⟨g,cap,cur,he,r⟩
 ·omega
 ·simp only[Value.slice.injEq]at he;exact⟨g,he.1⟩
theorem Kind.Own.cell{g n cap:Nat}(h:K.Own w (.slice (some ⟨g,0,none⟩) n cap) ps)(i:Nat)(hi:i<ps.length)(j:Nat)(x:Value)(hx:(K.cells ps[i])[j]?=some x):w.cell? ⟨g,i*K.size+j,none⟩=some x∧w.frozen? ⟨g,i*K.size+j,none⟩=false:=by
 obtain⟨a',c,e⟩:=h.shape;simp only[Value.slice.injEq]at e;obtain⟨_,rfl,_⟩:=e;have hj:j<K.size:=by rw[←K.len ps[i]];exact(List.getElem?_eq_some_iff.1 hx).1
 have hlt:i*K.size+j<ps.length*K.size:=by
  have:(i+1)*K.size≤ps.length*K.size:=Nat.mul_le_mul_right _ (by omega);rw[Nat.add_mul]at this;omega
 exact⟨by rw[h.1.cellAt _ hlt,Kind.row_get ps i hi j hj];exact hx,h.1.frozenAt _⟩
def z08(xs:List Value)(o:Nat):List Value→List Value
 |[]=>xs
 |y::ys=>z08 (xs.set o y) (o+1) ys
theorem z1F(xs:List Value)(o:Nat)(ys:List Value):(z08 xs o ys).length=xs.length:=by
 induction ys generalizing xs o with
 |nil=>rfl
 |cons y ys ih=>simp[z08,ih]
theorem z2v(xs:List Value)(o:Nat)(ys:List Value)(j:Nat)(hj:j<xs.length):(z08 xs o ys)[j]?=if o≤j∧j<o+ys.length then ys[j-o]? else xs[j]?:=by
 induction ys generalizing xs o with
 |nil=>
  rw[if_neg (by simp only[List.length_nil];omega)];rfl
 |cons y ys ih=>
  rw[z08,ih (xs.set o y) (o+1) (by simpa using hj)];by_cases h1:o+1≤j∧j<o+1+ys.length
  ·rw[if_pos h1,if_pos (by simp;omega),show j-o=(j-(o+1))+1 by omega];simp
  ·rw[if_neg h1,List.getElem?_set];by_cases h2:o=j
   ·subst h2;rw[if_pos rfl,if_pos hj,if_pos (by simp)];simp
   ·rw[if_neg h2,if_neg (by simp;omega)]
theorem Kind.row_put(ps:List P)(i:Nat)(hi:i<ps.length)(p:P):z08 (K.row ps) (i*K.size) (K.cells p)=K.row (ps.set i p):=by
 have hl:=Kind.row_length (K:=K) ps;have hl2:=Kind.row_length (K:=K) (ps.set i p);rw[List.length_set]at hl2;have hi2:(i+1)*K.size≤ps.length*K.size:=Nat.mul_le_mul_right _ (by omega);rw[Nat.add_mul,Nat.one_mul]at hi2;apply List.ext_getElem?;intro j;by_cases hj:j<ps.length*K.size
 ·rw[z2v _ _ _ _ (by omega),K.len];have hs:0<K.size:=by
   rcases Nat.eq_zero_or_pos K.size with h0|h0
   ·rw[h0]at hj;simp at hj
   ·exact h0
  have hd:=Nat.div_add_mod j K.size;have hm:=Nat.mod_lt j hs;have hq:j / K.size<ps.length:=Nat.div_lt_of_lt_mul (by rw[Nat.mul_comm];exact hj);have e:j=j / K.size*K.size+j % K.size:=by rw[Nat.mul_comm];exact hd.symm
  have e2:=Kind.row_get (K:=K) (ps.set i p) (j / K.size) (by simpa using hq) (j % K.size) hm;rw[←e]at e2;have e3:=Kind.row_get (K:=K) ps (j / K.size) hq (j % K.size) hm;rw[←e]at e3;rw[e2,e3];by_cases hk:j / K.size=i
  ·subst hk;rw[if_pos (by omega)];simp only[List.getElem_set_self]
   congr 1
   omega
  ·have hne:¬(i*K.size≤j∧j<i*K.size+K.size):=by
    rintro⟨h1,h2⟩;apply hk;exact Nat.div_eq_of_lt_le (by omega) (by rw[Nat.add_mul];omega)
   rw[if_neg hne,List.getElem_set_ne (Ne.symm hk)]
 ·rw[List.getElem?_eq_none (by rw[z1F];omega),List.getElem?_eq_none (by omega)]
theorem Kind.row_store(ps:List P)(i:Nat)(hi:i<ps.length)(p:P)(j:Nat)(u:Value)(hc:K.cells p=(K.cells ps[i]).set j u)(hj:j<K.size):(K.row ps).set (i*K.size+j) u=K.row (ps.set i p):=by
 rw[←Kind.row_put ps i hi p,hc];have hl:=Kind.row_length (K:=K) ps;have hi2:(i+1)*K.size≤ps.length*K.size:=Nat.mul_le_mul_right _ (by omega);rw[Nat.add_mul,Nat.one_mul]at hi2;apply List.ext_getElem?;intro k;by_cases hk:k<ps.length*K.size
 ·rw[z2v _ _ _ _ (by omega),List.length_set,K.len,List.getElem?_set];by_cases h1:i*K.size+j=k
  ·subst h1;rw[if_pos rfl,if_pos (by omega),if_pos (by omega),List.getElem?_set,if_pos (by omega),if_pos (by rw[K.len];omega)]
  ·rw[if_neg h1];by_cases h2:i*K.size≤k∧k<i*K.size+K.size
   ·rw[if_pos h2,List.getElem?_set,if_neg (by omega)];have:=Kind.row_get (K:=K) ps i hi (k-i*K.size) (by omega);rw[show i*K.size+(k-i*K.size)=k by omega]at this;exact this
   ·rw[if_neg h2]
 ·rw[List.getElem?_eq_none (by simp;omega),List.getElem?_eq_none (by rw[z1F];omega)]
theorem z84(ps:List P)(i:Nat)(hi:i<ps.length)(p:P)(hf:K.foot p=K.foot ps[i]):(ps.set i p).flatMap K.foot=ps.flatMap K.foot:=by
 induction ps generalizing i with
 |nil=>simp at hi
 |cons q r ih=>
  cases i with
  |zero=>simp only[List.set_cons_zero,List.flatMap_cons,hf,List.getElem_cons_zero]
  |succ i=>simp only[List.set_cons_succ,List.flatMap_cons,ih i (by simpa using hi) (by simpa using hf)]
theorem Kind.fp_set(v:Value)(ps:List P)(i:Nat)(hi:i<ps.length)(p:P)(hf:K.foot p=K.foot ps[i]):K.fp v (ps.set i p)=K.fp v ps:=by
 simp only[Kind.fp,z84 ps i hi p hf]
theorem z7l{ps:List P}(h:(ps.flatMap K.foot).Nodup)(i:Nat)(hi:i<ps.length)(j:Nat)(hj:j<ps.length)(hne:i≠j):∀k∈K.foot ps[j],k∉K.foot ps[i]:=by
 induction ps generalizing i j with
 |nil=>simp at hi
 |cons p r ih=>
  rw[List.flatMap_cons,List.nodup_append]at h;obtain⟨_,h2,h3⟩:=h;intro k hk hk2
  cases i with
  |zero=>
   cases j with
   |zero=>exact hne rfl
   |succ j=>
    simp only[List.getElem_cons_succ,List.getElem_cons_zero]at hk hk2;exact h3 k hk2 k (List.mem_flatMap.2 ⟨_,List.getElem_mem (by simpa using hj),hk⟩) rfl
  |succ i=>
   cases j with
   |zero=>
    simp only[List.getElem_cons_succ,List.getElem_cons_zero]at hk hk2;exact h3 k hk k (List.mem_flatMap.2 ⟨_,List.getElem_mem (by simpa using hi),hk2⟩) rfl
   |succ j=>
    simp only[List.getElem_cons_succ]at hk hk2;exact ih h2 i (by simpa using hi) j (by simpa using hj) (by omega) k hk hk2
theorem Kind.Own.store{g n cap:Nat}(h:K.Own w (.slice (some ⟨g,0,none⟩) n cap) ps)(hnd:(K.fp (.slice (some ⟨g,0,none⟩) n cap) ps).Nodup)(i:Nat)(hi:i<ps.length)(p:P)(j:Nat)(u:Value)(hj:j<K.size)
  (hc:K.cells p=(K.cells ps[i]).set j u) (hf:K.foot p=K.foot ps[i]) (hown:∀w',K.own w' ps[i]→K.own w' p):
  K.Own (w.setCell ⟨g,i*K.size+j,none⟩ u) (.slice (some ⟨g,0,none⟩) n cap) (ps.set i p)∧K.fp (.slice (some ⟨g,0,none⟩) n cap) (ps.set i p)=K.fp (.slice (some ⟨g,0,none⟩) n cap) ps:=by
 obtain⟨a',c,e⟩:=h.shape;simp only[Value.slice.injEq]at e;obtain⟨_,rfl,_⟩:=e;refine⟨⟨?_,?_⟩,Kind.fp_set _ ps i hi p hf⟩
 ·have h1:=(h.1.stored (i*K.size+j) u).1;rw[Kind.row_store ps i hi p j u hc hj]at h1;rw[List.length_set];exact h1
 ·have hg:∀q∈ps,∀k∈K.foot q,k∉[g]:=by
   intro q hq k hk;simp only[Kind.fp,blk,Value.ownBlock,Option.toList,List.cons_append,List.nil_append,List.nodup_cons]at hnd;simp only[List.mem_singleton];rintro rfl;exact hnd.1 (List.mem_flatMap.2 ⟨q,hq,hk⟩)
  have hall:∀q∈ps,K.own (w.setCell ⟨g,i*K.size+j,none⟩ u) q:=fun q hq=>K.own_out (h.2 q hq) (Out.setCell w g _ u) (hg q hq)
  intro q hq;rcases List.mem_or_eq_of_mem_set hq with hq|rfl
  ·exact hall q hq
  ·exact hown _ (hall _ (List.getElem_mem hi))
theorem Kind.Own.turn(h:K.Own w v ps)(x:(K.fp v ps).Nodup)(i:Nat)(hi:i<ps.length)(p:P){F:List Nat}(ho:Out F w w')(hF:∀k∈F,k∈K.foot ps[i])
  (hc:K.cells p=K.cells ps[i]) (hf:K.foot p=K.foot ps[i]) (s:K.own w' p):K.Own w' v (ps.set i p)∧K.fp v (ps.set i p)=K.fp v ps:=by
 have c:=x;simp only[Kind.fp]at c;rw[List.nodup_append]at c;refine⟨⟨?_,?_⟩,Kind.fp_set _ ps i hi p hf⟩
 ·have e:K.row (ps.set i p)=K.row ps:=by
   rw[←Kind.row_put ps i hi p,hc,Kind.row_put ps i hi ps[i],List.set_getElem_self]
  rw[e,List.length_set];refine z48 h.1 ho (fun k hk r=>?_);exact c.2.2 k hk k (List.mem_flatMap.2 ⟨ps[i],List.getElem_mem hi,hF k r⟩) rfl
 ·intro q hq;obtain⟨j,hj,rfl⟩:=List.getElem_of_mem hq;rw[List.length_set]at hj;by_cases d:i=j
  ·subst d;rw[List.getElem_set_self];exact s
  ·rw[List.getElem_set_ne d];exact K.own_out (h.2 _ (List.getElem_mem hj)) ho (fun k hk r=>z7l c.2.1 i hi j hj d k hk (hF k r))
theorem Kind.Own.put{g n cap:Nat}(h:K.Own w (.slice (some ⟨g,0,none⟩) n cap) ps)(i:Nat)(hi:i<ps.length)(p:P)(hrow:w'.ownsRow 0 K.ty K.size (.slice (some ⟨g,0,none⟩) n cap) ps.length (z08 (K.row ps) (i*K.size) (K.cells p)))
  (ho:Out [g] w w') (hg:∀q∈ps,∀k∈K.foot q,k≠g) (hown:K.own w p) (hp:∀k∈K.foot p,k≠g):K.Own w' (.slice (some ⟨g,0,none⟩) n cap) (ps.set i p):=by
 rw[Kind.row_put ps i hi p]at hrow;refine⟨by rw[List.length_set];exact hrow,fun q hq=>?_⟩;rcases List.mem_or_eq_of_mem_set hq with hq|rfl
 ·exact K.own_out (h.2 q hq) ho (fun k hk=>by simpa using hg q hq k hk)
 ·exact K.own_out hown ho (fun k hk=>by simpa using hp k hk)
def nmL(nm:P→Nat)(ps:List P):Nat:=(ps.map nm).sum
theorem z85(nm:P→Nat)(ps:List P)(k:Nat)(h:k<ps.length):nmL nm (ps.take (k+1))=nmL nm (ps.take k)+nm ps[k]:=by
 rw[List.take_succ_eq_append_getElem h];simp only[nmL,List.map_append,List.map_cons,List.map_nil,List.sum_append,List.sum_cons,List.sum_nil,Nat.add_zero]
theorem z5M(nm:P→Nat)(ps:List P)(k:Nat):nmL nm (ps.take k)≤nmL nm ps:=by
 have e:nmL nm ps=nmL nm (ps.take k)+nmL nm (ps.drop k):=by
  conv=>lhs;rw[←List.take_append_drop k ps]
  simp only[nmL,List.map_append,List.sum_append]
 omega
end
section
variable {P:Type} {K:Kind P} {w w':World} {v:Value} {ps:List P}
theorem z7X(ps:List P)(i:Nat)(hi:i<ps.length)(p:P):ps.set i p=ps.take i++p::ps.drop (i+1):=by
 rw[List.set_eq_take_append_cons_drop,if_pos hi]
theorem z3y{ps:List P}{i:Nat}(hi:i<ps.length){p:P}{k:Nat}(h:k∈(ps.set i p).flatMap K.foot):k∈ps.flatMap K.foot∨k∈K.foot p:=by
 obtain⟨q,hq,hk⟩:=List.mem_flatMap.1 h;rcases List.mem_or_eq_of_mem_set hq with hq|rfl
 ·exact Or.inl (List.mem_flatMap.2 ⟨q,hq,hk⟩)
 ·exact Or.inr hk
end
theorem Out.set{F:List Nat}{w W:World}{b j:Nat}{u:Value}(h:Out F w W)(hb:b∈F):Out F w (W.setCell ⟨b,j,none⟩ u):=h.trans ((Out.setCell W b j u).mono (fun k hk=>by simp only[List.mem_singleton]at hk;rw[hk];exact hb))
theorem Out.call{F:List Nat}{w W W':World}(h:Out F w W)(hb:Below W.heap.size W W'):Out F w W':=h.trans (Out.of_below hb)
theorem Below.call{B:Nat}{w W W':World}(h:Below B w W)(hs:B≤W.heap.size)(hb:Below W.heap.size W W'):Below B w W':=h.trans (hb.mono hs)
theorem z38{w:World}{base e s g n cap:Nat}{xs:List Value}(h:w.ownsRow base e s (.slice (some ⟨g,0,none⟩) n cap) n xs)(o:Nat)(ys:List Value):
  (ys.zipIdx.foldl (fun w (y:Value × Nat)=>w.setCell ⟨g,o+y.2,none⟩ y.1) w).ownsRow base e s (.slice (some ⟨g,0,none⟩) n cap) n (z08 xs o ys):=by
 suffices H:∀ (ys:List Value) (w:World) (xs:List Value) (d:Nat),w.ownsRow base e s (.slice (some ⟨g,0,none⟩) n cap) n xs→((ys.zipIdx d).foldl (fun w (y:Value × Nat)=>w.setCell ⟨g,o+y.2,none⟩ y.1) w).ownsRow base e s (.slice (some ⟨g,0,none⟩) n cap) n (z08 xs (o+d) ys)from H ys w xs 0 h
 intro ys;induction ys with
 |nil=>intro w xs d h;exact h
 |cons y ys ih=>
  intro w xs d h;have:=ih (w.setCell ⟨g,o+d,none⟩ y) (xs.set (o+d) y) (d+1) (h.stored (o+d) y).1;simpa[List.zipIdx_cons,z08,Nat.add_assoc]using this
structure TxnD where
 id:Int
 session:Int
 seq:Int
 acts:List ActD
def z0q:TxnD:=⟨0,0,0,[]⟩
structure TxnP where
 d:TxnD
 a:Option Addr
 cap:Nat
def TxnP.sl(p:TxnP):Value:=.slice p.a p.d.acts.length p.cap
def TxnP.cells(p:TxnP):List Value:=[.int .i64 p.d.id,.int .i64 p.d.session,.int .i64 p.d.seq,p.sl]
def z0B(ps:List TxnP):List Value:=ps.flatMap TxnP.cells
def z3z:TxnP:=⟨z0q,none,0⟩
theorem z39(ps:List TxnP):(z0B ps).length=ps.length*4:=by
 induction ps with
 |nil=>rfl
 |cons x xs ih=>simp only[z0B,List.flatMap_cons,List.length_append,List.length_cons]at ih⊢;rw[ih];simp[TxnP.cells];omega
theorem z5N(ps:List TxnP):∀ (i:Nat),i<ps.length→(z0B ps)[i*4]?=some (.int .i64 (ps.getD i z3z).d.id)∧(z0B ps)[i*4+1]?=some (.int .i64 (ps.getD i z3z).d.session)∧(z0B ps)[i*4+2]?=some (.int .i64 (ps.getD i z3z).d.seq)∧(z0B ps)[i*4+3]?=some (ps.getD i z3z).sl:=by
 induction ps with
 |nil=>intro i h;simp at h
 |cons x xs ih=>
  intro i h
  cases i with
  |zero=>simp[z0B,TxnP.cells]
  |succ i=>
   have e:z0B (x::xs)=x.cells++z0B xs:=rfl;have hl:x.cells.length=4:=rfl;obtain⟨h1,h2,h3,h4⟩:=ih i (by simpa using h);rw[e,List.getElem?_append_right (by omega),List.getElem?_append_right (by omega),List.getElem?_append_right (by omega),List.getElem?_append_right (by omega),hl,show(i+1)*4-4=i*4 by omega,show(i+1)*4+1-4=i*4+1 by omega,show(i+1)*4+2-4=i*4+2 by omega,show(i+1)*4+3-4=i*4+3 by omega];simpa[List.getD]using⟨h1,h2,h3,h4⟩
def TxnsAt(w:World)(v:Value)(ds:List TxnD):Prop:=
 ∃a cap ps,v=.slice a ds.length cap∧ps.map TxnP.d=ds∧Lies w a (z0B ps)∧∀p∈ps,ActRow w p.a p.d.acts
theorem TxnsAt.below{w w':World}{v:Value}{ds:List TxnD}(h:TxnsAt w v ds)(hb:Below w.heap.size w w'):TxnsAt w' v ds:=by
 obtain⟨a,cap,ps,e,hd,hL,hA⟩:=h;exact⟨a,cap,ps,e,hd,hL.below hb,fun p hp=>(hA p hp).below hb⟩
theorem TxnsAt.shape{w:World}{v:Value}{ds:List TxnD}(h:TxnsAt w v ds):∃a cap,v=.slice a ds.length cap:=by
 obtain⟨a,cap,_,e,_⟩:=h;exact⟨a,cap,e⟩
theorem TxnsAt.at{w:World}{a:Option Addr}{n cap:Nat}{ds:List TxnD}(h:TxnsAt w (.slice a n cap) ds)(i:Nat)(hi:i<ds.length):
  ∃b off aa cc,a=some ⟨b,off,none⟩∧b<w.heap.size∧w.cell? ⟨b,off+i*4,none⟩=some (.int .i64 (ds.getD i z0q).id)∧w.cell? ⟨b,off+i*4+1,none⟩=some (.int .i64 (ds.getD i z0q).session)∧w.cell? ⟨b,off+i*4+2,none⟩=some (.int .i64 (ds.getD i z0q).seq)∧
   w.cell? ⟨b,off+i*4+3,none⟩=some (.slice aa (ds.getD i z0q).acts.length cc)∧ActRow w aa (ds.getD i z0q).acts:=by
 obtain⟨a',cap',ps,e,hd,hL,hA⟩:=h;simp only[Value.slice.injEq]at e;obtain⟨rfl,_,_⟩:=e;have hl:ps.length=ds.length:=by rw[←hd];simp
 obtain⟨h1,h2,h3,h4⟩:=z5N ps i (by omega);have hp:(ps.getD i z3z).d=ds.getD i z0q:=by
  rw[←hd];simp[List.getD,show i<ps.length by omega]
 have hm:ps.getD i z3z∈ps:=by simp[List.getD,show i<ps.length by omega]
 rcases hL with h|⟨b,off,ha,hlt,hc⟩
 ·have:=z39 ps;rw[h]at this;simp at this;omega
 ·have hAA:=hA _ hm;rw[hp]at hAA h1 h2 h3;refine⟨b,off,(ps.getD i z3z).a,(ps.getD i z3z).cap,ha,hlt,hc _ _ h1,by rw[Nat.add_assoc];exact hc _ _ h2,by rw[Nat.add_assoc];exact hc _ _ h3,?_,hAA⟩;rw[Nat.add_assoc,hc _ _ h4];simp only[TxnP.sl,hp]
def OwnTxns(lo hi:Nat)(w:World)(v:Value)(ds:List TxnD):Prop:=
 ∃g cap ps,v=.slice (some ⟨g,0,none⟩) ds.length cap∧g<hi∧ps.map TxnP.d=ds∧w.ownsRow lo 44 4 (.slice (some ⟨g,0,none⟩) ds.length cap) ds.length (z0B ps)∧
  ∀p∈ps,w.ownsRow lo 163 3 p.sl p.d.acts.length (z0j p.d.acts)∧∀k,p.sl.ownBlock=some k→k<hi∧k≠g
theorem OwnTxns.row{lo hi:Nat}{w:World}{v:Value}{ds:List TxnD}(h:OwnTxns lo hi w v ds):TxnsAt w v ds:=by
 obtain⟨g,cap,ps,e,_,hd,ho,hp⟩:=h;exact⟨_,cap,ps,e,hd,Lies.own ho,fun p hm=>Lies.own (hp p hm).1⟩
theorem OwnTxns.below{lo hi:Nat}{w w':World}{v:Value}{ds:List TxnD}(h:OwnTxns lo hi w v ds)(hb:Below w.heap.size w w'):OwnTxns lo hi w' v ds:=by
 obtain⟨g,cap,ps,e,hg,hd,ho,hp⟩:=h;exact⟨g,cap,ps,e,hg,hd,z0n ho hb,fun p hm=>⟨z0n (hp p hm).1 hb,(hp p hm).2⟩⟩
def z4G(ds:List TxnD):Nat:=(ds.map (fun d=>d.acts.length)).sum
theorem z1e{ds:List TxnD}{d:TxnD}(h:d∈ds):d.acts.length≤z4G ds:=by
 induction ds with
 |nil=>simp at h
 |cons x r ih=>
  simp only[z4G,List.map_cons,List.sum_cons]at ih⊢;rcases List.mem_cons.1 h with rfl|h
  ·omega
  ·have:=ih h;omega
theorem z1G:(Tryz.prog.info? 44).map (fun i=>(i.zero,i.size,i.bytes))=some (some (.agg #[.int .i64 0,.int .i64 0,.int .i64 0,.slice none 0 0]),4,48):=by kernel_rfl
theorem z0Z{w:World}{base e n s g j:Nat}{v u:Value}{xs:List Value}(h:w.ownsRow base e s v n xs)(hne:∀k,v.ownBlock=some k→k≠g):(w.setCell ⟨g,j,none⟩ u).ownsRow base e s v n xs:=by
 refine⟨h.1,?_⟩;rcases h.2 with h2|⟨g',cap,cur,hv,hg,hh,r⟩
 ·exact Or.inl h2
 ·exact Or.inr ⟨g',cap,cur,hv,hg,by rw[Below.heap_setCell _ _ _ _ (by have:=hne g' (by rw[hv];rfl);omega)];exact hh,r⟩
def intK:Kind Int where
 ty:=2
 size:=1
 cells n:=[.int .i64 n]
 own _ _:=True
 rd _ _:=True
 foot _:=[]
 len _:=rfl
 own_rd _:=trivial
 own_out _ _ _:=trivial
 own_lt _ k hk:=by simp at hk
 rd_below _ _:=trivial
def actK:Kind ActD where
 ty:=163
 size:=3
 cells:=ActD.cells
 own _ _:=True
 rd _ _:=True
 foot _:=[]
 len _:=rfl
 own_rd _:=trivial
 own_out _ _ _:=trivial
 own_lt _ k hk:=by simp at hk
 rd_below _ _:=trivial
structure TxnQ where
 i:Int
 s:Int
 q:Int
 va:Value
 acts:List ActD
def txnK:Kind TxnQ where
 ty:=44
 size:=4
 cells p:=[.int .i64 p.i,.int .i64 p.s,.int .i64 p.q,p.va]
 own w p:=actK.Own w p.va p.acts
 rd w p:=actK.At w p.va p.acts
 foot p:=actK.fp p.va p.acts
 len _:=rfl
 own_rd h:=h.at
 own_out h ho hd:=h.out ho hd
 own_lt h:=h.lt
 rd_below h hb:=h.below hb
def TxnQ.e(p:TxnQ):TxnD:=⟨p.i,p.s,p.q,p.acts⟩
def TxnD.n(d:TxnD):Nat:=d.acts.length
def z6j(ds:List TxnD):Nat:=ds.length+nmL TxnD.n ds
structure RoundQ where
 vr:Value
 rep:List Int
 vp:Value
 pro:List Int
def roundK:Kind RoundQ where
 ty:=172
 size:=2
 cells p:=[p.vr,p.vp]
 own w p:=intK.Own w p.vr p.rep∧intK.Own w p.vp p.pro
 rd w p:=intK.At w p.vr p.rep∧intK.At w p.vp p.pro
 foot p:=intK.fp p.vr p.rep++intK.fp p.vp p.pro
 len _:=rfl
 own_rd h:=⟨h.1.at,h.2.at⟩
 own_out h ho hd:=⟨h.1.out ho (fun k hk=>hd k (List.mem_append_left _ hk)),h.2.out ho (fun k hk=>hd k (List.mem_append_right _ hk))⟩
 own_lt h k hk:=by
  rcases List.mem_append.1 hk with hk|hk
  ·exact h.1.lt k hk
  ·exact h.2.lt k hk
 rd_below h hb:=⟨h.1.below hb,h.2.below hb⟩
structure InstQ where
 has:Bool
 vb:Value
 batch:List TxnQ
 vr:Value
 rounds:List RoundQ
 vd:Value
 dec:List Int
def instK:Kind InstQ where
 ty:=49
 size:=4
 cells p:=[.bool p.has,p.vb,p.vr,p.vd]
 own w p:=txnK.Own w p.vb p.batch∧roundK.Own w p.vr p.rounds∧intK.Own w p.vd p.dec
 rd w p:=txnK.At w p.vb p.batch∧roundK.At w p.vr p.rounds∧intK.At w p.vd p.dec
 foot p:=txnK.fp p.vb p.batch++(roundK.fp p.vr p.rounds++intK.fp p.vd p.dec)
 len _:=rfl
 own_rd h:=⟨h.1.at,h.2.1.at,h.2.2.at⟩
 own_out h ho hd:=⟨h.1.out ho (fun k hk=>hd k (List.mem_append_left _ hk)),h.2.1.out ho (fun k hk=>hd k (List.mem_append_right _ (List.mem_append_left _ hk))),h.2.2.out ho (fun k hk=>hd k (List.mem_append_right _ (List.mem_append_right _ hk)))⟩
 own_lt h k hk:=by
  rcases List.mem_append.1 hk with hk|hk
  ·exact h.1.lt k hk
  ·rcases List.mem_append.1 hk with hk|hk
   ·exact h.2.1.lt k hk
   ·exact h.2.2.lt k hk
 rd_below h hb:=⟨h.1.below hb,h.2.1.below hb,h.2.2.below hb⟩
structure RoundE where
 rep:List Int
 pro:List Int
structure InstE where
 has:Bool
 batch:List TxnD
 rounds:List RoundE
 dec:List Int
def RoundQ.e(p:RoundQ):RoundE:=⟨p.rep,p.pro⟩
def InstQ.e(p:InstQ):InstE:=⟨p.has,p.batch.map TxnQ.e,p.rounds.map RoundQ.e,p.dec⟩
def RoundE.n(d:RoundE):Nat:=d.rep.length+d.pro.length
def z1H(ds:List RoundE):Nat:=ds.length+nmL RoundE.n ds
def InstE.n(d:InstE):Nat:=z6j d.batch+z1H d.rounds+d.dec.length
theorem z86{n lo hi:Int}:inW n lo hi=true↔lo≤n∧n≤hi:=by simp[inW]
theorem z7Y{zs:List ActD}(h:z2m zs=0):∀z∈zs,actF z=0:=by
 induction zs with
 |nil=>simp
 |cons x r ih=>
  simp only[z2m]at h;split at h
  ·rename_i hx
   intro z hz;rcases List.mem_cons.1 hz with rfl|hz
   ·exact hx
   ·exact ih h z hz
  ·rename_i hx;exact absurd h hx
theorem z4a{i s q:Int}{zs:List ActD}(h:txnF i s q zs=0):(1≤i∧i≤200)∧(1≤s∧s≤9)∧(1≤q∧q≤99)∧(1≤zs.length∧zs.length≤4)∧∀z∈zs,actF z=0:=by
 unfold txnF at h;split at h
 ·simp at h
 ·rename_i h1
  split at h
  ·simp at h
  ·rename_i h2
   simp only[not_or,Bool.not_eq_false,z86]at h1;exact⟨h1.1,h1.2.1,h1.2.2,by omega,z7Y h⟩
theorem Box4.cells{w:World}{b o:Nat}{x0 x1 x2 x3:Value}(h:Box4 w b o x0 x1 x2 x3):b<w.heap.size:=World.block_lt_of_cell? w ⟨b,o,none⟩ h.c0
structure Box2 (w:World) (b:Nat) (x y:Value):Prop where
 lt:b<w.heap.size
 c0:w.cell? ⟨b,0,none⟩=some x
 c1:w.cell? ⟨b,1,none⟩=some y
 f0:w.frozen? ⟨b,0,none⟩=false
 f1:w.frozen? ⟨b,1,none⟩=false
theorem Box2.below{w w':World}{b:Nat}{x y:Value}(h:Box2 w b x y)(hb:Below w.heap.size w w'):Box2 w' b x y:=
 ⟨Nat.lt_of_lt_of_le h.lt hb.size,by rw[hb.cell (p:=⟨b,0,none⟩) h.lt];exact h.c0,by rw[hb.cell (p:=⟨b,1,none⟩) h.lt];exact h.c1,by rw[hb.frozen (p:=⟨b,0,none⟩) h.lt];exact h.f0,by rw[hb.frozen (p:=⟨b,1,none⟩) h.lt];exact h.f1⟩
def TxnD.F(d:TxnD):Int:=txnF d.id d.session d.seq d.acts
def allF:List TxnD→Int
 |[]=>0
 |d::r=>if d.F=0 then allF r else d.F
def z94(ds:List TxnD):Int:=if 60<ds.length then 2 else allF ds
def idsR(ds:List TxnD):List Int:=if z94 ds=0 then ds.map TxnD.id else []
def idsL(ds:List TxnD)(k:Nat):List Int:=(ds.take k).map TxnD.id
theorem z5O(ds:List TxnD)(k:Nat)(h:k<ds.length):idsL ds (k+1)=idsL ds k++[(ds.getD k z0q).id]:=by
 have e:ds.getD k z0q=ds[k]:=by simp[List.getD,h]
 rw[idsL,idsL,List.take_succ_eq_append_getElem h,e];simp only[List.map_append,List.map_cons,List.map_nil]
theorem z4b(ds:List TxnD)(k:Nat)(h:k≤ds.length):(idsL ds k).length=k:=by simp[idsL];omega
theorem z95(ds:List TxnD):(idsR ds).length≤ds.length:=by
 unfold idsR;split<;>simp
theorem z4P(ds:List TxnD):∀k,(∀j,j<k→(ds.getD j z0q).F=0)→k<ds.length→(ds.getD k z0q).F≠0→allF ds=(ds.getD k z0q).F:=by
 induction ds with
 |nil=>intro k _ h;simp at h
 |cons x r ih=>
  intro k h0 hk hne
  cases k with
  |zero=>simp[List.getD]at hne⊢;simp[allF,hne]
  |succ k=>
   have hx:x.F=0:=by simpa[List.getD]using h0 0 (by omega)
   have:=ih k (fun j hj=>by simpa[List.getD]using h0 (j+1) (by omega)) (by simpa using hk) (by simpa[List.getD]using hne);simp only[allF,hx,if_true];rw[this];simp[List.getD]
theorem z5P(ds:List TxnD)(h:∀j,j<ds.length→(ds.getD j z0q).F=0):allF ds=0:=by
 induction ds with
 |nil=>rfl
 |cons x r ih=>
  have hx:x.F=0:=by simpa[List.getD]using h 0 (by simp)
  simp only[allF,hx,if_true];exact ih (fun j hj=>by simpa[List.getD]using h (j+1) (by simpa using hj))
theorem TxnsAt.box{w:World}{b off i:Nat}{z:TxnD}{aa:Option Addr}{cc:Nat}(h0:w.cell? ⟨b,off+i*4,none⟩=some (.int .i64 z.id))(h1:w.cell? ⟨b,off+i*4+1,none⟩=some (.int .i64 z.session))(h2:w.cell? ⟨b,off+i*4+2,none⟩=some (.int .i64 z.seq))
  (h3:w.cell? ⟨b,off+i*4+3,none⟩=some (.slice aa z.acts.length cc)):Box4 w b (off+i*4) (.int .i64 z.id) (.int .i64 z.session) (.int .i64 z.seq) (.slice aa z.acts.length cc):=⟨h0,h1,h2,h3⟩
theorem z4c(v:Value)(ds:List TxnD)(w:World)(h:TxnsAt w v ds)(hl:ds.length≤60):
  Calls Tryz.prog 170 #[v] w fun e w'=>∃b c,e=.returned (.slice b (ds.map TxnD.id).length c)∧w'.ownsRow w.heap.size 2 1 (.slice b (ds.map TxnD.id).length c) (ds.map TxnD.id).length ((ds.map TxnD.id).map (Value.int .i64))∧Below w.heap.size w w':=by
 obtain⟨a,cap,rfl⟩:=h.shape;obtain⟨i0,hi,I,J,L⟩:=info_parts z7P;go_enter Tryz.func170,Tryz.ntmps170
 go_wp2
 go_loopw[3,4] (fun v j wr=>∃k:Nat,k≤ds.length∧j=.int .i64 k∧wr.ownsRow w.heap.size 2 1 v (idsL ds k).length ((idsL ds k).map (Value.int .i64))∧Below w.heap.size w wr) (fun _ j _=>ds.length-(intOf j).toNat)
 case atStart=>exact⟨0,Nat.zero_le _,rfl,by first|exact World.ownsRow_lit w #[] 0 (Nat.le_refl _) (by decide) rfl|(simp[idsL];exact World.ownsRow_lit w #[] 0 (Nat.le_refl _) (by decide) rfl),by go_grown⟩
 case round=>
  obtain⟨k,hk,rfl,ho,hb⟩:=hrel;have G:=hb.size;have E:(idsL ds k).length≤60:=by rw[z4b ds k hk];omega
  obtain⟨a1,c1,rfl⟩:=z0p ho;by_cases x:k<ds.length
  ·have A:Hid (idsL ds (k+1)=idsL ds k++[(ds.getD k z0q).id]):=z5O ds k x;obtain⟨b,N,aa,cc,rfl,M,C,_⟩:=(h.below hb).at k x;generalize (ds.getD k z0q).id=z at C A;have r:Below w.heap.size wr (wr.alloc (.cells #[.int .i64 z] 2)):=(Below.refl _ _).alloc G _;have y:=ho.alloc (.cells #[.int .i64 z] 2)
   go_wp2_with (at_builtin;refine wpList_append_own _ rfl _ _ 47 rfl w.heap.size 2 i0 (.int .i64 0) 1 8 Tryz.underlying47 hi I J L rfl (by decide) _ (idsL ds k).length ((idsL ds k).map (Value.int .i64)) rfl y ⟨wr.heap.size,0,none⟩ 1 1 [.int .i64 z] rfl rfl ?c1 ?c2 ?c3 ?c4 ?c5 ?_)
   all_goals try
    (case c1=>intro j u hj;match j,hj with|0,hj=>simp at hj;subst hj;simp[Addr.add])
   all_goals try(case c2=>first|rfl|(intro u hu;simp at hu;subst hu;rfl))
   all_goals try(case c3=>unfold maxLen;omega)
   all_goals try(case c4=>omega)
   all_goals try(case c5=>first|omega|(simp;omega))
   intro v' w2 q d _;obtain⟨a2,c2,rfl⟩:=z0p q;have s:Below w.heap.size wr w2:=r.grown d (by simp;omega) (fun j hj=>(ho.lt j hj).1);clear r d y ho;have R:Hid (w2.ownsRow w.heap.size 2 1 (.slice a2 ((idsL ds k).length+1) c2) ((idsL ds k).length+1) ((idsL ds k++[z]).map (Value.int .i64))∧Below w.heap.size w w2):=⟨by simpa using q,hb.trans s⟩
   clear q s
   go_wp2
   go_roundw
   case rel=>
    refine⟨k+1,by omega,by go_num,?_,R.out.2⟩;rw[A.out];simpa using R.out.1
   case measure=>simp[intOf];omega
  ·have D:k=ds.length:=by omega
   subst D;have e:idsL ds ds.length=ds.map TxnD.id:=by simp[idsL]
   rw[e]at ho;clear E
   go_wp2
   go_ret;rw[e];exact⟨_,_,rfl,ho,hb⟩
theorem z49(v:Value)(ds:List TxnD)(w:World)(h:TxnsAt w v ds)(hl:ds.length+z4G ds≤1048576):
  Calls Tryz.prog 83 #[v] w fun e w'=>∃b c,e=.returned (.agg #[.int .i64 (z94 ds),.slice b (idsR ds).length c])∧
   w'.ownsRow w.heap.size 2 1 (.slice b (idsR ds).length c) (idsR ds).length ((idsR ds).map (Value.int .i64))∧Below w.heap.size w w':=by
 obtain⟨a,cap,rfl⟩:=h.shape;by_cases U:60<ds.length
 ·have e1:z94 ds=2:=if_pos U;have e2:idsR ds=[]:=if_neg (by rw[e1];decide);rw[e1,e2];clear e1 e2;go_enter Tryz.func83,Tryz.ntmps83
  go_wp2
  exact bodyPost_ret (v:=.agg #[.int .i64 2,.slice none 0 0]) (by simp[results,Tryz.results83,go_sem]) rfl ⟨_,_,rfl,World.ownsRow_nil _ _ _ _,by go_grown⟩
 ·have e1:z94 ds=allF ds:=if_neg U;have J:Box2 (w.alloc (.cells #[.int .i64 0,.slice none 0 0] 126)) w.heap.size (.int .i64 0) (.slice none 0 0):=⟨by simp,by simp,by simp,by simp,by simp⟩
  have D:Below w.heap.size w (w.alloc (.cells #[.int .i64 0,.slice none 0 0] 126)):=by go_grown
  obtain⟨i0,hi,ai,aj,ak⟩:=info_parts z7P;go_enter Tryz.func83,Tryz.ntmps83
  go_wp2
  generalize w.alloc (.cells #[.int .i64 0,.slice none 0 0] 126)=W at J D;have an:=J.lt;go_loopw[3,13] (fun v j wr=>∃k:Nat,k≤ds.length∧j=.int .i64 k∧wr.ownsRow W.heap.size 2 1 v (idsL ds k).length ((idsL ds k).map (Value.int .i64))∧Below W.heap.size W wr∧Hid (∀j,j<k→(ds.getD j z0q).F=0)) (fun _ j _=>ds.length-(intOf j).toNat)
  case atStart=>exact⟨0,Nat.zero_le _,rfl,World.ownsRow_nil _ _ _ _,Below.refl _ _,fun j hj=>absurd hj (Nat.not_lt_zero _)⟩
  case round=>
   obtain⟨k,hk,rfl,ho,hb,HA⟩:=hrel;have ah:=hb.size;have af:(idsL ds k).length≤60:=by rw[z4b ds k hk];omega
   obtain⟨a1,c1,rfl⟩:=z0p ho;by_cases M:k<ds.length
   ·obtain⟨b,ao,aa,cc,rfl,al,x,y,A,C,hA⟩:=(h.below (z0u D hb)).at k M;have N:(ds.getD k z0q).acts.length≤z4G ds:=z1e (by simp[List.getD,M]);have d:=fun w h=>z3u (ds.getD k z0q).id (ds.getD k z0q).session (ds.getD k z0q).seq aa cc (ds.getD k z0q).acts w h (by omega)
    change∀w h,Calls _ _ _ _ fun e w'=>e=.returned (.int .i64 ((ds.getD k z0q).F))∧_ at d
    by_cases hF:(ds.getD k z0q).F=0
    ·have HB:Hid (∀j,j<k+1→(ds.getD j z0q).F=0):=by
      intro j hj;by_cases ad:j=k
      ·subst ad;exact hF
      ·exact HA.out j (by omega)
     have ab:Hid (idsL ds (k+1)=idsL ds k++[(ds.getD k z0q).id]):=z5O ds k M;rw[hF]at d;clear HA hF;generalize ds.getD k z0q=z at x y A C hA d ab N;obtain⟨z0,z1,z2,zs⟩:=z;dsimp only at x y A C hA d N;have q:Below wr.heap.size wr (wr.alloc (.cells #[.int .i64 z0,.int .i64 z1,.int .i64 z2,.slice aa zs.length cc] 44)):=by go_grown
     have O:=Blk.new wr 44 #[.int .i64 z0,.int .i64 z1,.int .i64 z2,.slice aa zs.length cc]
     go_wp2_with fail
     generalize wr.alloc (.cells #[.int .i64 z0,.int .i64 z1,.int .i64 z2,.slice aa zs.length cc] 44)=w1 at q O;refine(d _ (hA.below q)).mono ?_;rintro e w2 ⟨rfl,s⟩;replace q:=q.trans (s.mono q.size);have p0:=(O.below s).cell 0 _ rfl;have T:=z0n ho q;have am:=q.size;clear s O d hA x y A C;have V:Below W.heap.size w2 (w2.alloc (.cells #[.int .i64 z0] 2)):=(Below.refl _ _).alloc (by omega) _;have Z:=T.alloc (.cells #[.int .i64 z0] 2)
     go_wp2_with (at_builtin;refine wpList_append_own _ rfl _ _ 47 rfl W.heap.size 2 i0 (.int .i64 0) 1 8 Tryz.underlying47 hi ai aj ak rfl (by decide) _ (idsL ds k).length ((idsL ds k).map (Value.int .i64)) rfl Z ⟨w2.heap.size,0,none⟩ 1 1 [.int .i64 z0] rfl rfl ?c1 ?c2 ?c3 ?c4 ?c5 ?_)
     all_goals try
      (case c1=>intro j u hj;match j,hj with|0,hj=>simp at hj;subst hj;simp[Addr.add])
     all_goals try(case c2=>first|rfl|(intro u hu;simp at hu;subst hu;rfl))
     all_goals try(case c3=>unfold maxLen;omega)
     all_goals try(case c4=>omega)
     all_goals try(case c5=>first|omega|(simp;omega))
     intro v' w3 I G _;obtain⟨a2,c2,rfl⟩:=z0p I;have X:Below W.heap.size w2 w3:=V.grown G (by simp;omega) (fun j hj=>(T.lt j hj).1);have R:Hid (w3.ownsRow W.heap.size 2 1 (.slice a2 ((idsL ds k).length+1) c2) ((idsL ds k).length+1) ((idsL ds k++[z0]).map (Value.int .i64))∧Below W.heap.size W w3):=⟨by simpa using I,(hb.trans (q.mono ah)).trans X⟩
     clear V G Z ho I X T q p0
     go_wp2
     go_roundw
     case rel=>
      refine⟨k+1,by omega,by go_num,?_,R.out.2,HB⟩;rw[ab.out];simpa using R.out.1
     case measure=>simp[intOf];omega
    ·have E:Hid (allF ds=(ds.getD k z0q).F):=z4P ds k HA.out M hF;have ag:((ds.getD k z0q).F !=0)=true:=by simpa using hF
     have E2:Hid (idsR ds=[]):=if_neg (by rw[e1,E.out];exact hF);clear HA hF;generalize (ds.getD k z0q).F=r at d E ag;generalize ds.getD k z0q=z at x y A C hA d N;obtain⟨z0,z1,z2,zs⟩:=z;dsimp only at x y A C hA d N;have q:Below wr.heap.size wr (wr.alloc (.cells #[.int .i64 z0,.int .i64 z1,.int .i64 z2,.slice aa zs.length cc] 44)):=by go_grown
     have E1:Hid (z94 ds=allF ds):=e1;clear e1
     go_wp2_with fail
     generalize wr.alloc (.cells #[.int .i64 z0,.int .i64 z1,.int .i64 z2,.slice aa zs.length cc] 44)=w1 at q;refine(d _ (hA.below q)).mono ?_;rintro e w2 ⟨rfl,s⟩;obtain⟨Y,q0,q1,g0,g1⟩:=((J.below hb).below q).below s;clear d hA x y A C ho
     go_wp2
     refine bodyPost_ret (v:=.agg #[.int .i64 r,.slice none 0 0]) (by simp[results,Tryz.results83,go_sem,q0,q1]) rfl ?_;rw[E1.out,E.out,E2.out];refine⟨_,_,rfl,World.ownsRow_nil _ _ _ _,?_⟩;repeat' (refine Below.setCell ?_ (by dsimp only;omega) _)
     exact z0u (z0u (z0u D hb) q) s
   ·have ae:k=ds.length:=by omega
    subst ae;have E:Hid (z94 ds=0):=e1.trans (z5P ds HA.out);have E2:Hid (idsR ds=idsL ds ds.length):=by
     show _=_;rw[show idsR ds=ds.map TxnD.id from if_pos E.out];simp[idsL]
    clear HA e1;obtain⟨Y,q0,q1,g0,g1⟩:=J.below hb;generalize idsL ds ds.length=L at ho E2 af
    go_wp2
    refine bodyPost_ret (v:=.agg #[.int .i64 0,.slice a1 L.length c1]) (by simp[results,Tryz.results83,go_sem,q0,q1]) rfl ?_;rw[E.out,E2.out];refine⟨_,_,rfl,?_,?_⟩
    ·refine z0R (base:=W.heap.size) ?_ D.size;repeat' (refine ownsRow_setCell_below ?_ (by dsimp only;omega) _)
     exact ho
    ·repeat' (refine Below.setCell ?_ (by dsimp only;omega) _)
     exact z0u D hb
def idxN:List Int→Int→Nat
 |[],_=>0
 |y::r,x=>if y=x then 0 else idxN r x+1
theorem z96(L:List Int)(x:Int):∀k,(∀j,j<k→L.getD j 0≠x)→k<L.length→L.getD k 0=x→idxN L x=k:=by
 induction L with
 |nil=>intro k _ h;simp at h
 |cons y r ih=>
  intro k h0 hk he
  cases k with
  |zero=>simp[List.getD]at he;simp[idxN,he]
  |succ k=>
   have hy:y≠x:=by simpa[List.getD]using h0 0 (by omega)
   simp only[idxN,hy,if_false];rw[ih k (fun j hj=>by simpa[List.getD]using h0 (j+1) (by omega)) (by simpa using hk) (by simpa[List.getD]using he)]
theorem z7Z(L:List Int)(x:Int)(h:∀j,j<L.length→L.getD j 0≠x):idxN L x=L.length:=by
 induction L with
 |nil=>rfl
 |cons y r ih=>
  have hy:y≠x:=by simpa[List.getD]using h 0 (by simp)
  simp only[idxN,hy,if_false,List.length_cons];rw[ih (fun j hj=>by simpa[List.getD]using h (j+1) (by simpa using hj))]
def idxI(L:List Int)(x:Int):Int:=if idxN L x<L.length then(idxN L x:Int)else -1
theorem z27(a:Option Addr)(cap:Nat)(L:List Int)(x:Int)(w:World)(h:Row .i64 w a L)(hl:L.length≤1048576):
  Calls Tryz.prog 169 #[.slice a L.length cap,.int .i64 x] w fun e w'=>e=.returned (.int .i64 (idxI L x))∧w'=w:=by
 go_enter Tryz.func169,Tryz.ntmps169
 go_wp2
 go_loop[5] (fun j=>∃k:Nat,k≤L.length∧j=.int .i64 k∧Hid (∀j,j<k→L.getD j 0≠x)) (fun j=>L.length-(intOf j).toNat)
 case atStart=>exact⟨0,Nat.zero_le _,rfl,fun j hj=>absurd hj (Nat.not_lt_zero _)⟩
 case round=>
  obtain⟨k,hk,rfl,HA⟩:=hrel;by_cases hlt:k<L.length
  ·obtain⟨b,off,rfl,hbs,hc⟩:=h k hlt;by_cases he:L.getD k 0=x
   ·have E:Hid (idxI L x=(k:Int)):=by
     show _=_;rw[idxI,z96 L x k HA.out hlt he,if_pos hlt]
    have hee:(L.getD k 0==x)=true:=by simpa using he
    clear HA he;generalize L.getD k 0=z at hc hee
    go_wp2
    go_ret;rw[E.out];exact⟨rfl,rfl⟩
   ·have HB:Hid (∀j,j<k+1→L.getD j 0≠x):=by
     intro j hj;by_cases hjk:j=k
     ·subst hjk;exact he
     ·exact HA.out j (by omega)
    have hee:(L.getD k 0==x)=false:=by simpa using he
    clear HA he;generalize L.getD k 0=z at hc hee
    go_wp2
    go_round
    case rel=>exact⟨k+1,by omega,by go_num,HB⟩
    case measure=>simp[intOf];omega
  ·have hkl:k=L.length:=by omega
   subst hkl;have E:Hid (idxI L x=-1):=by
    show _=_;rw[idxI,z7Z L x HA.out,if_neg (Nat.lt_irrefl _)]
   clear HA
   go_wp2
   go_ret;rw[E.out];exact⟨rfl,rfl⟩
theorem z3A(zs:List ActD):∀u∈z0j zs,u.oneCell'=true:=by
 intro u hu;simp only[z0j,List.mem_flatMap,ActD.cells,List.mem_cons,List.not_mem_nil,or_false]at hu;obtain⟨z,_,rfl|rfl|rfl⟩:=hu<;>rfl
theorem z2H{w:World}{b off:Nat}{xs:List Value}(h:Lies w (some ⟨b,off,none⟩) xs):∀j u,xs[j]?=some u→w.cell? ((⟨b,off,none⟩:Addr).add j)=some u:=by
 intro j u hj;rcases h with rfl|⟨b',off',e,_,hc⟩
 ·simp at hj
 ·simp only[Option.some.injEq,Addr.mk.injEq,and_true]at e;obtain⟨rfl,rfl⟩:=e;rw[Addr.add_lit];exact hc j u hj
theorem z4Q(i s q:Int)(b d cap:Nat)(zs:List ActD)(w:World)(h:ActRow w (some ⟨b,d,none⟩) zs)(h0:0<zs.length)(hl:zs.length≤1048576):
  Calls Tryz.prog 97 #[.agg #[.int .i64 i,.int .i64 s,.int .i64 q,.slice (some ⟨b,d,none⟩) zs.length cap]] w fun e w'=>∃a c,e=.returned (.agg #[.int .i64 i,.int .i64 s,.int .i64 q,.slice a zs.length c])∧
   w'.ownsRow w.heap.size 163 3 (.slice a zs.length c) zs.length (z0j zs)∧Below w.heap.size w w':=by
 obtain⟨i0,hi,C,D,E⟩:=info_parts z20;have hs:=z2H (Lies.below h (w':=((w.alloc (.cells #[.int .i64 i,.int .i64 s,.int .i64 q,.slice (some ⟨b,d,none⟩) zs.length cap] 44)).alloc (.cells #[.int .i64 0,.int .i64 0,.int .i64 0,.slice none 0 0] 44)).alloc (.cells #[] 163)) (by go_grown));have A:=z0J zs;have ho:=World.ownsRow_lit (e:=163) (size:=3) ((w.alloc (.cells #[.int .i64 i,.int .i64 s,.int .i64 q,.slice (some ⟨b,d,none⟩) zs.length cap] 44)).alloc (.cells #[.int .i64 0,.int .i64 0,.int .i64 0,.slice none 0 0] 44)) #[] 0 (Nat.le_refl _) (by decide) rfl;have y:Below w.heap.size w (((w.alloc (.cells #[.int .i64 i,.int .i64 s,.int .i64 q,.slice (some ⟨b,d,none⟩) zs.length cap] 44)).alloc (.cells #[.int .i64 0,.int .i64 0,.int .i64 0,.slice none 0 0] 44)).alloc (.cells #[] 163)):=by go_grown
 have B1:=(Blk.new w 44 #[.int .i64 i,.int .i64 s,.int .i64 q,.slice (some ⟨b,d,none⟩) zs.length cap]).below (w':=((w.alloc (.cells #[.int .i64 i,.int .i64 s,.int .i64 q,.slice (some ⟨b,d,none⟩) zs.length cap] 44)).alloc (.cells #[.int .i64 0,.int .i64 0,.int .i64 0,.slice none 0 0] 44)).alloc (.cells #[] 163)) (by go_grown);have B2:=(Blk.new (w.alloc (.cells #[.int .i64 i,.int .i64 s,.int .i64 q,.slice (some ⟨b,d,none⟩) zs.length cap] 44)) 44 #[.int .i64 0,.int .i64 0,.int .i64 0,.slice none 0 0]).below (w':=((w.alloc (.cells #[.int .i64 i,.int .i64 s,.int .i64 q,.slice (some ⟨b,d,none⟩) zs.length cap] 44)).alloc (.cells #[.int .i64 0,.int .i64 0,.int .i64 0,.slice none 0 0] 44)).alloc (.cells #[] 163)) (by go_grown);have HS:Hid (∀j u,(z0j zs)[j]?=some u→_):=hs;clear hs;simp only[World.size_alloc]at B2 ho;go_enter Tryz.func97,Tryz.ntmps97
 go_wp2_with (at_builtin;refine wpList_append_own _ rfl _ _ 42 rfl (w.heap.size+1+1) 163 i0 (.agg #[.int .i64 0,.int .i64 0,.int .i64 0]) 3 24 Tryz.underlying42 hi C D E rfl (by decide) _ 0 [] rfl ho ⟨b,d,none⟩ zs.length cap (z0j zs) rfl A HS.out ?c2 ?c3 ?c4 ?c5 ?_)
 all_goals try(case c2=>exact z3A zs)
 all_goals try(case c3=>unfold maxLen;omega)
 all_goals try(case c4=>omega)
 all_goals try(case c5=>simp)
 intro v' w2 x r _;obtain⟨a2,c2,rfl⟩:=z0p x;replace B1:=B1.grown r (by simp[Value.ownBlock]<;>omega);replace B2:=B2.grown r (by simp[Value.ownBlock]<;>omega);have z:Below w.heap.size w w2:=y.grown r (by simp;omega) (fun k hk=>by simp[Value.ownBlock]at hk;omega);have G:=B2.lt;obtain⟨p0,p1,p2,p3⟩:=B1.cel4;have pf:=B1.frozen 3;obtain⟨q0,q1,q2,q3⟩:=B2.cel4;obtain⟨f0,f1,f2,f3⟩:=B2.frz4;try simp only[Nat.zero_add]at x
 clear B1 B2 r HS ho y
 go_wp2
 refine bodyPost_ret (v:=.agg #[.int .i64 i,.int .i64 s,.int .i64 q,.slice a2 zs.length c2]) (by simp[results,Tryz.results97,go_sem,q0,q1,q2,q3]) rfl ⟨_,_,rfl,?_,?_⟩
 ·refine z0R (base:=w.heap.size+1+1) ?_ (by omega);repeat' (refine ownsRow_setCell_below ?_ (by dsimp only;omega) _)
  simpa using x
 ·repeat' (refine Below.setCell ?_ (by dsimp only;omega) _)
  exact z
theorem z70(b r cap:Nat)(zs:List ActD)(w:World)(h:ActRow w (some ⟨b,r,none⟩) zs)(h0:0<zs.length)(hl:zs.length≤1048576):
  Calls Tryz.prog 151 #[.slice (some ⟨b,r,none⟩) zs.length cap] w fun e w'=>∃a c,e=.returned (.slice a zs.length c)∧
   w'.ownsRow w.heap.size 163 3 (.slice a zs.length c) zs.length (z0j zs)∧Below w.heap.size w w':=by
 obtain⟨i0,hi,y,z,A⟩:=info_parts z20;have hs:=z2H (Lies.below h (w':=w.alloc (.cells #[] 163)) (by go_grown));have x:=z0J zs;have ho:=World.ownsRow_lit (e:=163) (size:=3) w #[] 0 (Nat.le_refl _) (by decide) rfl;have HS:Hid (∀j u,(z0j zs)[j]?=some u→_):=hs;clear hs;have C:∀w,(binOp .eql 42 (.slice (some ⟨b,r,none⟩) zs.length cap) (.slice none 0 0)).run Tryz.prog w=.ok (.bool false) w:=fun w=>by first|rfl|kernel_rfl|(simp only[binOp];simp[Op.equal,Op.maxDepth,Op.equalIn,run_underlying Tryz.underlying42])
 go_enter Tryz.func151,Tryz.ntmps151
 go_wp2_with (at_builtin;refine wpList_append_own _ rfl _ _ 42 rfl w.heap.size 163 i0 (.agg #[.int .i64 0,.int .i64 0,.int .i64 0]) 3 24 Tryz.underlying42 hi y z A rfl (by decide) _ 0 [] rfl ho ⟨b,r,none⟩ zs.length cap (z0j zs) rfl x HS.out ?c2 ?c3 ?c4 ?c5 ?_)
 all_goals try(case c2=>exact z3A zs)
 all_goals try(case c3=>unfold maxLen;omega)
 all_goals try(case c4=>omega)
 all_goals try(case c5=>simp)
 intro v' w2 q d _;obtain⟨a2,c2,rfl⟩:=z0p q;have s:Below w.heap.size w w2:=((Below.refl _ _).alloc (Nat.le_refl _) _).grown d (by simp) (fun k hk=>by simp[Value.ownBlock]at hk;omega);try simp only[Nat.zero_add]at q
 clear d HS ho
 go_wp2
 go_ret;exact⟨a2,c2,rfl,by simpa using q,s⟩
theorem z5Q(i s q:Int)(b off cap:Nat)(zs:List ActD)(w:World)(h:ActRow w (some ⟨b,off,none⟩) zs)(h0:0<zs.length)(hl:zs.length≤1048576):
  Calls Tryz.prog 92 #[.agg #[.int .i64 i,.int .i64 s,.int .i64 q,.slice (some ⟨b,off,none⟩) zs.length cap]] w fun e w'=>∃a c,e=.returned (.agg #[.int .i64 i,.int .i64 s,.int .i64 q,.slice a zs.length c])∧
   w'.ownsRow w.heap.size 163 3 (.slice a zs.length c) zs.length (z0j zs)∧Below w.heap.size w w':=by
 have hb1:Below w.heap.size w ((w.alloc (.cells #[.int .i64 i,.int .i64 s,.int .i64 q,.slice (some ⟨b,off,none⟩) zs.length cap] 44)).alloc (.cells #[.int .i64 0,.int .i64 0,.int .i64 0,.slice none 0 0] 44)):=by go_grown
 have B1:=(Blk.new w 44 #[.int .i64 i,.int .i64 s,.int .i64 q,.slice (some ⟨b,off,none⟩) zs.length cap]).below (w':=(w.alloc (.cells #[.int .i64 i,.int .i64 s,.int .i64 q,.slice (some ⟨b,off,none⟩) zs.length cap] 44)).alloc (.cells #[.int .i64 0,.int .i64 0,.int .i64 0,.slice none 0 0] 44)) (by go_grown);have B2:=Blk.new (w.alloc (.cells #[.int .i64 i,.int .i64 s,.int .i64 q,.slice (some ⟨b,off,none⟩) zs.length cap] 44)) 44 #[.int .i64 0,.int .i64 0,.int .i64 0,.slice none 0 0];simp only[World.size_alloc]at B2;go_enter Tryz.func92,Tryz.ntmps92
 go_wp2_with fail
 generalize (w.alloc (.cells #[.int .i64 i,.int .i64 s,.int .i64 q,.slice (some ⟨b,off,none⟩) zs.length cap] 44)).alloc (.cells #[.int .i64 0,.int .i64 0,.int .i64 0,.slice none 0 0] 44)=W at hb1 B1 B2;have hltW:=B2.lt;refine(z70 b off cap zs W (h.below hb1) h0 hl).mono ?_;rintro e w2 ⟨a2,c2,rfl,hown,hb⟩;replace B1:=B1.below hb;replace B2:=B2.below hb;obtain⟨p0,p1,p2,p3⟩:=B1.cel4;have pf:=B1.frozen 3;obtain⟨q0,q1,q2,q3⟩:=B2.cel4;obtain⟨f0,f1,f2,f3⟩:=B2.frz4;clear B1 B2
 go_wp2
 refine bodyPost_ret (v:=.agg #[.int .i64 i,.int .i64 s,.int .i64 q,.slice a2 zs.length c2]) (by simp[results,Tryz.results92,go_sem,q0,q1,q2,q3]) rfl ⟨_,_,rfl,?_,?_⟩
 ·refine z0R (base:=W.heap.size) ?_ (by omega);repeat' (refine ownsRow_setCell_below ?_ (by dsimp only;omega) _)
  exact hown
 ·repeat' (refine Below.setCell ?_ (by dsimp only;omega) _)
  exact z0u hb1 hb
section
variable {P:Program} {ops:Array Oper} {Q:Exit→Act→World→Prop} {S:World→Prop}
theorem z87(i:Nat)(d:Option Tmp)(v:Value)(fuel:Nat){F:Nat}{l:Array Bool}{a:Act}{w:World}(hF:F=fuel+1)(hs:Region.noSelect ops=true)
  (hd:(ops[i]?).map (·.dst)=some d) (hok:z3H ops [i] l=true) (hw:(ops[i]?).map (fun o=>Region.wanted o (yielded ops a.tmps))=some true)
  (hrun:∀u,S u→(ops[i]?).map (fun o=>(execOp a.eval o).run P u)=some (.ok (.value v) u)) (hS:S w)
  (h:wpAnyH P .any ops (NoPanic Q) S fuel (z21 [i] l) (a.put d v) w):wpAnyH P .any ops (NoPanic Q) S F l a w:=by
 subst hF
 cases ho:ops[i]? with
 |none=>rw[ho]at hd;simp at hd
 |some o=>
  rw[ho]at hd hw hrun;simp only[Option.map_some,Option.some.injEq]at hd hw hrun;subst hd;simp only[z3H,Bool.and_eq_true,Bool.and_true]at hok;exact wpAnyH_take (i:=i) (oi:=o) (v:=v) ho hs hok.1 hok.2 (fun c a w=>z6g c a _ _ w) (Or.inl ⟨hw,fun u hu=>hrun u hu⟩) hS h
theorem z4R{K:Act→World→Prop}(i:Nat)(o:Oper){a:Act}{w:World}(ho:ops[i]?=some o)(h:wpList P ops (ThenGo Q K) [o] a w):wpOp P ops (NoPanic Q) i K a w:=by
 unfold wpOp;simp only[ho];simp only[wpList]at h;split at h
 ·rename_i hw
  rw[if_pos hw];rcases h with h|⟨h1,h2⟩
  ·left;unfold Oper.wp at h⊢;revert h;generalize (execOp a.eval o).run P w=r;intro h;unfold Oper.upon at h⊢;split at h
   ·exact h
   ·exact h
   ·exact h
   ·refine Calls.mono h fun e w' he=>?_
    cases e<;>exact he
   ·exact h
   ·exact h
   ·exact h
  ·exact Or.inr ⟨h1,h2⟩
 ·rename_i hw
  rw[if_neg hw];exact h
theorem z97{K:Act→World→Prop}(i:Nat)(d:Option Tmp)(f:Nat)(args:Array Value){a:Act}{w:World}
  (hd:(ops[i]?).map (·.dst)=some d) (hw:(ops[i]?).map (fun o=>Region.wanted o (yielded ops a.tmps))=some true)
  (hrun:(ops[i]?).map (fun o=>(execOp a.eval o).run P w)=some (.ok (.enter f args) w))
  (hc:Calls P f args w (fun e w'=>∃v,e=.returned v∧K (a.put d v) w')):wpOp P ops (NoPanic Q) i K a w:=by
 cases ho:ops[i]? with
 |none=>rw[ho]at hd;simp at hd
 |some o=>
  rw[ho]at hd hw hrun;simp only[Option.map_some,Option.some.injEq]at hd hw hrun;subst hd;unfold wpOp;simp only[ho,hw,if_true];refine .inl ?_;unfold Oper.wp;rw[hrun];simp only[Oper.upon];refine hc.mono fun e w' he=>?_
  obtain⟨v,rfl,h1⟩:=he;exact h1
theorem q0P(i j:Nat)(fuel:Nat){F:Nat}{l:Array Bool}{a:Act}{w:World}(hF:F=fuel+1)(hr:Region.ready .any ops l=[i,j])
  (hi:wpOp P ops (NoPanic Q) i (fun a' w'=>S w'∧wpAnyH P .any ops (NoPanic Q) S fuel (z21 [i] l) a' w') a w)
  (hj:wpOp P ops (NoPanic Q) j (fun a' w'=>S w'∧wpAnyH P .any ops (NoPanic Q) S fuel (z21 [j] l) a' w') a w):wpAnyH P .any ops (NoPanic Q) S F l a w:=by
 subst hF;refine wpAnyH_all hr (by simp) (fun k hk=>?_);simp only[List.mem_cons,List.not_mem_nil,or_false]at hk;rcases hk with rfl|rfl
 ·exact hi
 ·exact hj
theorem qta(i:Nat)(d:Option Tmp)(v:Value)(fuel:Nat){F:Nat}{l:Array Bool}{a:Act}{w:World}(h5:(F,Region.noSelect ops,(ops[i]?).map (·.dst),z3H ops [i] l,(ops[i]?).map (fun o=>Region.wanted o (yielded ops a.tmps)))=(fuel+1,true,some d,true,some true))
  (hrun:∀u,S u→(ops[i]?).map (fun o=>(execOp a.eval o).run P u)=some (.ok (.value v) u)) (hS:S w)
  (h:wpAnyH P .any ops (NoPanic Q) S fuel (z21 [i] l) (a.put d v) w):wpAnyH P .any ops (NoPanic Q) S F l a w:=by
 simp only[Prod.mk.injEq]at h5;exact z87 i d v fuel h5.1 h5.2.1 h5.2.2.1 h5.2.2.2.1 h5.2.2.2.2 hrun hS h
theorem opc{K:Act→World→Prop}(i:Nat)(d:Option Tmp)(f:Nat)(args:Array Value){a:Act}{w:World}
  (h3:((ops[i]?).map (·.dst),(ops[i]?).map (fun o=>Region.wanted o (yielded ops a.tmps)),(ops[i]?).map (fun o=>(execOp a.eval o).run P w))=(some d,some true,some (.ok (.enter f args) w)))
  (hc:Calls P f args w (fun e w'=>∃v,e=.returned v∧K (a.put d v) w')):wpOp P ops (NoPanic Q) i K a w:=by
 simp only[Prod.mk.injEq]at h3;exact z97 i d f args h3.1 h3.2.1 h3.2.2 hc
theorem twa(i j:Nat)(fuel:Nat){F:Nat}{l:Array Bool}{a:Act}{w:World}(h2:(F,Region.ready .any ops l)=(fuel+1,[i,j]))
  (hi:wpOp P ops (NoPanic Q) i (fun a' w'=>S w'∧wpAnyH P .any ops (NoPanic Q) S fuel (z21 [i] l) a' w') a w)
  (hj:wpOp P ops (NoPanic Q) j (fun a' w'=>S w'∧wpAnyH P .any ops (NoPanic Q) S fuel (z21 [j] l) a' w') a w):wpAnyH P .any ops (NoPanic Q) S F l a w:=by
 simp only[Prod.mk.injEq]at h2;exact q0P i j fuel h2.1 h2.2 hi hj
end
end Go.Proofs.YtciofogeiohleaaGreatDoor
