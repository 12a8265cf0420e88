/- Texts joined, with what the law reaches alone. -/
import Derived.Test.YtjjolkihiclopaaGreatDoorSOBC
import Derived.Test.YtjjolkihiclopaaGreatDoorSOAB
import Derived.Deep.Slices
import Derived.Deep.Strs
import Derived.Lib.SmallJoins
import Derived.ProofKit
import Derived.Test.YtjjolkihiclopaaGreatDoorSOAE
import Derived.Test.YtjjolkihiclopaaGreatDoorSOAG
import Derived.Test.YtjjolkihiclopaaGreatDoorRows
import Derived.Test.YtjjolkihiclopaaGreatDoorSOAC
import Derived.Lib.LaidU8
import Derived.OpenVars
import Derived.LaidMore
import Derived.Stop.LaidErr
import Derived.Stop.Joined
import Derived.Laws.StructEq
set_option linter.unusedVariables false
set_option linter.unusedSimpArgs false
namespace Go.Proofs.YtjjolkihiclopaaGreatDoor
open Go.RowKit
open Go.BigFrame
set_option maxRecDepth 100000
theorem fieldI0 (c v:Int) (w:World):(Instr.field 38 (.agg #[.int .i64 c,.int .i64 v]) 0).run Tryz.prog w=.ok (.int .i64 c) w:=by kernel_rfl

theorem fieldI1 (c v:Int) (w:World):(Instr.field 38 (.agg #[.int .i64 c,.int .i64 v]) 1).run Tryz.prog w=.ok (.int .i64 v) w:=by kernel_rfl

theorem oc_eq (x:InstE):(ocC x == 0)=((insF x == 0) && (outV x.dec != 3)):=by
 unfold ocC
 by_cases h0:insF x=0
 ·rw [if_pos h0,h0]
  by_cases h3:outV x.dec=3
  ·rw [if_pos h3,h3];rfl
  ·rw [if_neg h3]
   have:(outV x.dec != 3)=true:=by simpa using h3
   rw [this];rfl
 ·rw [if_neg h0]
  have:(insF x == 0)=false:=by simpa using h0
  rw [this];rfl

theorem inst_at (ps:List InstQ) (k:Nat) (hk:k < ps.length):(ps.map InstQ.e).getD k instNo=InstQ.e ps[k]:=by simp [List.getD,hk]

theorem nmI_le (ps:List InstQ) (k:Nat) (hk:k < ps.length):InstQ.n ps[k]≤nmL InstQ.n ps:=nm_le InstQ.n ps k hk

theorem instP_at {w:World} {a:Option Addr} {n cap:Nat} {ps:List InstQ} (h:instK.At w (.slice a n cap) ps) (k:Nat) (hk:k < ps.length):∃ b off,a=some ⟨b,off,none⟩∧b < w.heap.size∧InstP w b (off + k * 4) ps[k]:=by
 obtain ⟨b,off,e,hb,hc,hrd⟩:=h.cell (by decide) k hk
 have hc' : ∀ j x,(instK.cells ps[k])[j]? = some x→w.cell? ⟨b,off + k * 4 + j,none⟩=some x:=hc
 exact ⟨b,off,e,hb,⟨hc' 0 (.bool ps[k].has) rfl,hc' 1 ps[k].vb rfl,hc' 2 ps[k].vr rfl,hc' 3 ps[k].vd rfl⟩,hrd⟩

set_option maxHeartbeats 2000000 in
theorem hasOutcome_any (p:InstQ) (w:World) (hG:Rul w) (h:instK.rd w p) (hl:p.n≤1048576) :
  Calls Tryz.prog 38 #[.agg #[.bool p.has,p.vb,p.vr,p.vd]] w fun e w' => e=.returned (.bool (ocC p.e == 0))∧Below w.heap.size w w' := by
 have hbo:=fun w hG h=>implOutcome_any p w hG h hl
 have hrb:=fun (w' : World) hb=>instK.rd_below (w' := w') h hb
 generalize ocC p.e=D at *
 generalize ocV p.e=E at *
 obtain ⟨has,vb,batch,vr,rounds,vd,dec⟩:=p
 obtain ⟨ba,bk,rfl⟩:∃ a c,vb=.slice a batch.length c:=h.1.shape
 obtain ⟨va,vk,rfl⟩:∃ a c,vr=.slice a rounds.length c:=h.2.1.shape
 obtain ⟨da,dk,rfl⟩:∃ a c,vd=.slice a dec.length c:=h.2.2.shape
 dsimp only at hbo hrb
 have hf0:=fieldI0 D E
 have hB:Below w.heap.size w (w.alloc (.cells #[.bool has,.slice ba batch.length bk,.slice va rounds.length vk,.slice da dec.length dk] 49)):=by go_grown
 go_enter Tryz.func38,Tryz.ntmps38
 go_wp2_with fail
 generalize w.alloc (.cells #[.bool has,.slice ba batch.length bk,.slice va rounds.length vk,.slice da dec.length dk] 49)=W at *
 refine (hbo W (hG.below hB) (hrb W hB)).mono ?_
 rintro e w1 ⟨rfl,hb1⟩
 replace hB:=hB.trans (hb1.mono hB.size)
 go_wp2
 go_ret
 exact ⟨rfl,hB⟩

set_option maxHeartbeats 4000000 in
theorem implOrderFault_any (v:Value) (ps:List InstQ) (w:World) (hG:Rul w) (h:instK.At w v ps) (hl:(ps.length + nmL InstQ.n ps)≤1048576) :
  Calls Tryz.prog 15 #[v] w fun e w' => e=.returned (.int .i64 (ordF (ps.map InstQ.e)))∧Below w.heap.size w w' := by
 obtain ⟨a,cap,rfl⟩:=h.shape
 generalize hE:ordF (ps.map InstQ.e)=E
 have HE:Hid (ordF (ps.map InstQ.e)=E):=hE
 clear hE
 by_cases hlen:ps.length < 1∨4 < ps.length
 ·have E1:Hid (E=2):=by
   have:=HE.out
   unfold ordF at this
   rw [if_pos (by simpa using hlen)] at this
   exact this.symm
  clear HE
  rcases hlen with hlen | hlen
  ·go_enter Tryz.func15,Tryz.ntmps15
   go_wp2
   go_ret
   exact ⟨by rw [E1.out];rfl,Below.refl _ _⟩
  ·have h1:¬ ps.length < 1:=by omega
   go_enter Tryz.func15,Tryz.ntmps15
   go_wp2
   go_ret
   exact ⟨by rw [E1.out];rfl,Below.refl _ _⟩
 ·have HG:Hid (E=ordGo (ps.map InstQ.e)):=by
   have:=HE.out
   unfold ordF at this
   rw [if_neg (by simpa using hlen)] at this
   exact this.symm
  have h1:¬ ps.length < 1:=by omega
  have h4:ps.length≤4:=by omega
  clear HE hlen
  go_enter Tryz.func15,Tryz.ntmps15
  go_wp2
  go_loopw [16] (fun i wr=>∃ k:Nat,k≤ps.length∧i=.int .i64 k∧Hid (E=ordGo ((ps.map InstQ.e).drop k))∧Below w.heap.size w wr) (fun i _=>ps.length - (intOf i).toNat)
  case atStart=>exact ⟨0,Nat.zero_le _,rfl,HG,Below.refl _ _⟩
  case round=>
   clear HG
   obtain ⟨k,hk,rfl,HG,hb⟩:=hrel
   by_cases hlt:k < ps.length
   ·have hat:=inst_at ps k hlt
    have HBAD:Hid (insF (InstQ.e ps[k])≠0→E=insF (InstQ.e ps[k])):=fun hx=>by
     rw [HG.out,ordGo_bad _ k (by simpa using hlt) (by rw [hat];exact hx),hat]
    have HOPN:Hid (k + 1 < ps.length→insF (InstQ.e ps[k])=0→outV (InstQ.e ps[k]).dec=3→E=8):=fun h1 h2 h3=>by
     rw [HG.out,ordGo_open _ k (by simpa using h1) (by rw [hat];exact h2) (by rw [hat];exact h3)]
    have HNXT:Hid (insF (InstQ.e ps[k])=0→¬ (k + 1 < ps.length∧outV (InstQ.e ps[k]).dec=3)→E=ordGo ((ps.map InstQ.e).drop (k + 1))):=fun h2 h3=>by
     rw [HG.out,ordGo_next _ k (by simpa using hlt) (by rw [hat];exact h2) (by rw [hat];simpa using h3)]
    have hn:InstQ.n ps[k]≤1048576:=by have:=nmI_le ps k hlt;omega
    have hif0:=implInstanceFault_any ps[k]
    have hho0:=hasOutcome_any ps[k]
    have hif:=fun w hG h=>hif0 w hG h hn
    have hho:=fun w hG h=>hho0 w hG h hn
    clear hif0 hho0
    have hoc:=oc_eq (InstQ.e ps[k])
    clear hat HG
    obtain ⟨b,off,rfl,hbs,hc,hrd⟩:=(h.below hb).cell (by decide) k hlt
    have hc' : ∀ j x,(instK.cells ps[k])[j]? = some x→wr.cell? ⟨b,off + k * 4 + j,none⟩=some x:=hc
    have c0:=hc' 0 (.bool ps[k].has) rfl
    have c1:=hc' 1 ps[k].vb rfl
    have c2:=hc' 2 ps[k].vr rfl
    have c3:=hc' 3 ps[k].vd rfl
    rw [Nat.add_zero] at c0
    clear hc hc'
    have hrb:=fun (w' : World) hb=>instK.rd_below (w' := w') hrd hb
    generalize ocC (InstQ.e ps[k])=OC at *
    generalize outV (InstQ.e ps[k]).dec=OV at *
    generalize insF (InstQ.e ps[k])=C at *
    generalize ps[k]=p at *
    obtain ⟨has,vb,batch,vr,rounds,vd,dec⟩:=p
    obtain ⟨ba,bk,rfl⟩:∃ a c,vb=.slice a batch.length c:=hrd.1.shape
    obtain ⟨va,vk,rfl⟩:∃ a c,vr=.slice a rounds.length c:=hrd.2.1.shape
    obtain ⟨da,dk,rfl⟩:∃ a c,vd=.slice a dec.length c:=hrd.2.2.shape
    dsimp only at c0 c1 c2 c3 hif hho hrb
    have hB1:Below wr.heap.size wr (wr.alloc (.cells #[.bool has,.slice ba batch.length bk,.slice va rounds.length vk,.slice da dec.length dk] 49)):=by go_grown
    have Bk:=Blk.new wr 49 #[.bool has,.slice ba batch.length bk,.slice va rounds.length vk,.slice da dec.length dk]
    have rd1:=hrb _ hB1
    go_wp2_with fail
    generalize wr.alloc (.cells #[.bool has,.slice ba batch.length bk,.slice va rounds.length vk,.slice da dec.length dk] 49)=W1 at *
    refine (hif W1 (hG.below (hb.trans (hB1.mono hb.size))) rd1).mono ?_
    rintro e w2 ⟨rfl,hb2⟩
    have rd2:=instK.rd_below rd1 hb2
    replace Bk:=Bk.below hb2
    replace hb:=(hb.trans (hB1.mono hb.size)).trans (hb2.mono (hb.trans (hB1.mono hb.size)).size)
    clear hB1 hb2 rd1 hif c0 c1 c2 c3 hrb
    by_cases hC:C=0
    ·subst hC
     by_cases hk1:k + 1 < ps.length
     ·have hk2:(k:Int) < (ps.length:Int) - 1:=by omega
      have p0:=Bk.cell 0 _ rfl
      have p1:=Bk.cell 1 _ rfl
      have p2:=Bk.cell 2 _ rfl
      have p3:=Bk.cell 3 _ rfl
      go_wp2_with fail
      refine (hho w2 (hG.below hb) rd2).mono ?_
      rintro e w3 ⟨rfl,hb3⟩
      replace hb:=hb.trans (hb3.mono hb.size)
      clear hb3 hho p0 p1 p2 p3 Bk rd2
      by_cases hO:OV=3
      ·have e1:(OC == 0)=false:=by rw [hoc,hO];rfl
       have E1:Hid (E=8):=HOPN.out hk1 (by simp) hO
       clear hoc HOPN HNXT HBAD
       go_wp2
       go_ret
       exact ⟨by rw [E1.out];rfl,hb⟩
      ·have e1:(OC == 0)=true:=by
        rw [hoc]
        have:(OV != 3)=true:=by simpa using hO
        rw [this];rfl
       have E1:Hid (E=ordGo ((ps.map InstQ.e).drop (k + 1))):=HNXT.out (by simp) (fun h=>hO h.2)
       clear hoc HOPN HNXT HBAD
       go_wp2
       go_roundw
       case rel=>exact ⟨k + 1,by omega,by go_num,E1.out,hb⟩
       case measure=>simp [intOf];omega
     ·have hk2:¬ (k:Int) < (ps.length:Int) - 1:=by omega
      have E1:Hid (E=ordGo ((ps.map InstQ.e).drop (k + 1))):=HNXT.out (by simp) (fun h=>hk1 h.1)
      clear hoc HOPN HNXT HBAD hho
      go_wp2
      go_roundw
      case rel=>exact ⟨k + 1,by omega,by go_num,E1.out,hb⟩
      case measure=>simp [intOf];omega
    ·have hC' : (C != 0)=true:=by simpa using hC
     have E1:Hid (E=C):=HBAD.out hC
     clear hoc HOPN HNXT HBAD hho
     go_wp2
     go_ret
     exact ⟨by rw [E1.out];rfl,hb⟩
   ·have E1:Hid (E=0):=by rw [HG.out];exact ordGo_end _ k (by simp;omega)
    clear HG
    go_wp2
    go_ret
    exact ⟨by rw [E1.out];rfl,hb⟩

set_option maxHeartbeats 4000000 in
theorem l7Fault_any (v:Value) (ps:List InstQ) (w:World) (h:instK.At w v ps) (hl:(ps.length + nmL InstQ.n ps)≤1048576) :
  Calls Tryz.prog 39 #[v] w fun e w' => e=.returned (.int .i64 (ordF (ps.map InstQ.e)))∧Below w.heap.size w w' := by
 obtain ⟨a,cap,rfl⟩:=h.shape
 generalize hE:ordF (ps.map InstQ.e)=E
 have HE:Hid (ordF (ps.map InstQ.e)=E):=hE
 clear hE
 by_cases hlen:ps.length < 1∨4 < ps.length
 ·have E1:Hid (E=2):=by
   have:=HE.out
   unfold ordF at this
   rw [if_pos (by simpa using hlen)] at this
   exact this.symm
  clear HE
  rcases hlen with hlen | hlen
  ·go_enter Tryz.func39,Tryz.ntmps39
   go_wp2
   go_ret
   exact ⟨by rw [E1.out];rfl,Below.refl _ _⟩
  ·have h1:¬ ps.length < 1:=by omega
   go_enter Tryz.func39,Tryz.ntmps39
   go_wp2
   go_ret
   exact ⟨by rw [E1.out];rfl,Below.refl _ _⟩
 ·have HG:Hid (E=ordGo (ps.map InstQ.e)):=by
   have:=HE.out
   unfold ordF at this
   rw [if_neg (by simpa using hlen)] at this
   exact this.symm
  have h1:¬ ps.length < 1:=by omega
  have h4:ps.length≤4:=by omega
  clear HE hlen
  go_enter Tryz.func39,Tryz.ntmps39
  go_wp2
  go_loopw [3] (fun i wr=>∃ k:Nat,k≤ps.length∧i=.int .i64 k∧Hid (E=ordGo ((ps.map InstQ.e).drop k))∧Below w.heap.size w wr) (fun i _=>ps.length - (intOf i).toNat)
  case atStart=>exact ⟨0,Nat.zero_le _,rfl,HG,Below.refl _ _⟩
  case round=>
   clear HG
   obtain ⟨k,hk,rfl,HG,hb⟩:=hrel
   by_cases hlt:k < ps.length
   ·have hat:=inst_at ps k hlt
    have HBAD:Hid (insF (InstQ.e ps[k])≠0→E=insF (InstQ.e ps[k])):=fun hx=>by
     rw [HG.out,ordGo_bad _ k (by simpa using hlt) (by rw [hat];exact hx),hat]
    have HOPN:Hid (k + 1 < ps.length→insF (InstQ.e ps[k])=0→outV (InstQ.e ps[k]).dec=3→E=8):=fun h1 h2 h3=>by
     rw [HG.out,ordGo_open _ k (by simpa using h1) (by rw [hat];exact h2) (by rw [hat];exact h3)]
    have HNXT:Hid (insF (InstQ.e ps[k])=0→¬ (k + 1 < ps.length∧outV (InstQ.e ps[k]).dec=3)→E=ordGo ((ps.map InstQ.e).drop (k + 1))):=fun h2 h3=>by
     rw [HG.out,ordGo_next _ k (by simpa using hlt) (by rw [hat];exact h2) (by rw [hat];simpa using h3)]
    obtain ⟨b,off,rfl,hbs,hP⟩:=instP_at (h.below hb) k hlt
    have hn:InstQ.n ps[k]≤1048576:=by have:=nmI_le ps k hlt;omega
    have hif0:=l6Fault_any b (off + k * 4) ps[k]
    have hho0:=l6Outcome_any b (off + k * 4) ps[k]
    have hif:=fun w hP=>hif0 w hP hn
    have hho:=fun w hP=>hho0 w hP hn
    clear hif0 hho0
    have ho2:outV (InstQ.e ps[k]).dec=outV ps[k].dec:=rfl
    rw [ho2] at HOPN HNXT
    clear hat HG ho2
    generalize outV ps[k].dec=OV at *
    generalize insF (InstQ.e ps[k])=C at *
    generalize ps[k]=p at *
    go_wp2_with fail
    refine (hif wr hP).mono ?_
    rintro e w2 ⟨rfl,hb2⟩
    replace hP:=hP.below hb2
    replace hb:=hb.trans (hb2.mono hb.size)
    clear hb2 hif
    by_cases hC:C=0
    ·subst hC
     by_cases hk1:k + 1 < ps.length
     ·have hk2:(k:Int) < (ps.length:Int) - 1:=by omega
      go_wp2_with fail
      refine (hho w2 hP).mono ?_
      rintro e w3 ⟨rfl,hw⟩
      replace hw:=hw.symm
      subst hw
      clear hho hP
      by_cases hO:OV=3
      ·have E1:Hid (E=8):=HOPN.out hk1 (by simp) hO
       have hO' : (OV == 3)=true:=by simpa using hO
       clear HOPN HNXT HBAD hO
       go_wp2
       go_ret
       exact ⟨by rw [E1.out];rfl,hb⟩
      ·have hO' : (OV == 3)=false:=by simpa using hO
       have E1:Hid (E=ordGo ((ps.map InstQ.e).drop (k + 1))):=HNXT.out (by simp) (fun h=>hO h.2)
       clear HOPN HNXT HBAD hO
       go_wp2
       go_roundw
       case rel=>exact ⟨k + 1,by omega,by go_num,E1.out,hb⟩
       case measure=>simp [intOf];omega
     ·have hk2:¬ (k:Int) < (ps.length:Int) - 1:=by omega
      have E1:Hid (E=ordGo ((ps.map InstQ.e).drop (k + 1))):=HNXT.out (by simp) (fun h=>hk1 h.1)
      clear HOPN HNXT HBAD hho
      go_wp2
      go_roundw
      case rel=>exact ⟨k + 1,by omega,by go_num,E1.out,hb⟩
      case measure=>simp [intOf];omega
    ·have hC' : (C != 0)=true:=by simpa using hC
     have E1:Hid (E=C):=HBAD.out hC
     clear HOPN HNXT HBAD hho
     go_wp2
     go_ret
     exact ⟨by rw [E1.out];rfl,hb⟩
   ·have E1:Hid (E=0):=by rw [HG.out];exact ordGo_end _ k (by simp;omega)
    clear HG
    go_wp2
    go_ret
    exact ⟨by rw [E1.out];rfl,hb⟩

theorem specOrderFault_any (v:Value) (ps:List InstQ) (w:World) (h:instK.At w v ps) (hl:(ps.length + nmL InstQ.n ps)≤1048576) :
  Calls Tryz.prog 19 #[v] w fun e w' => e=.returned (.int .i64 (ordF (ps.map InstQ.e)))∧Below w.heap.size w w' := by
 have hf:=l7Fault_any v ps w h hl
 obtain ⟨a,cap,rfl⟩:=h.shape
 generalize ordF (ps.map InstQ.e)=E at *
 go_enter Tryz.func19,Tryz.ntmps19
 go_wp2_with fail
 refine hf.mono ?_
 rintro e w2 ⟨rfl,hb2⟩
 go_wp2
 go_ret
 exact ⟨rfl,hb2⟩

end Go.Proofs.YtjjolkihiclopaaGreatDoor
namespace Go.Proofs.YtjjolkihiclopaaGreatDoor
open Go.RowKit Go.Deep Go.ChangeShapes Go.WideShapes
set_option maxRecDepth 100000
section
variable {H:Type} {enc:TypeId × Value→H} {P:Program} {w:World} {base:Nat} {spare:Nat→Bool} {held:Bool}
end
section
variable {H:Type} {enc:TypeId × Value→H} {w:World} {base:Nat} {spare:Nat→Bool} {held:Bool}
end
end Go.Proofs.YtjjolkihiclopaaGreatDoor
namespace Go.Proofs.YtjjolkihiclopaaGreatDoor
open Go.RowKit Go.Deep Go.ChangeShapes Go.WideShapes
set_option maxRecDepth 100000
section
variable {H:Type} {enc:TypeId × Value→H} {w:World} {base:Nat} {spare:Nat→Bool} {held:Bool}
end
end Go.Proofs.YtjjolkihiclopaaGreatDoor
namespace Go.Proofs.YtjjolkihiclopaaGreatDoor
open Go.RowKit Go.Deep Go.ChangeShapes Go.WideShapes
set_option maxRecDepth 100000
section
variable {H:Type} {enc:TypeId × Value→H} {w:World} {base:Nat} {spare:Nat→Bool} {held:Bool}
end
end Go.Proofs.YtjjolkihiclopaaGreatDoor
namespace Go.Proofs.YtjjolkihiclopaaGreatDoor
open Go.RowKit Go.ChangeShapes Go.WideShapes
set_option maxRecDepth 100000
theorem gRul : Tryz.prog.globalNamed "loop.example/g00631/impl.rules" = some 1 := by kernel_rfl

theorem tRul:(Tryz.prog.globals[1]?).map (·.type)=some 195:=by kernel_rfl

theorem cRule:Tryz.prog.cellsOf 186=7:=by kernel_rfl

theorem cCh:Tryz.prog.cellsOf 63=4:=by kernel_rfl

theorem cI:Tryz.prog.cellsOf 2=1:=by kernel_rfl

theorem cB:Tryz.prog.cellsOf 4=1:=by kernel_rfl

section
variable {H:Type} {enc:TypeId × Value→H} {w:World} {base:Nat} {spare:Nat→Bool} {held:Bool}
theorem choice_cells {fuel:Nat} {cs:List Value} {c v:Int} {d k:Bool} {q:List MemPlace} (h:DataW.trod enc Tryz.prog w base spare held fuel 63 cs=some (.agg [.lit (.int .i64 c),.lit (.bool d),.lit (.bool k),.lit (.int .i64 v)],q)):cs=[.int .i64 c,.bool d,.bool k,.int .i64 v]:=by
 obtain ⟨y0,y1,y2,y3,n,hx,hl,h0,h1,h2,h3⟩:=Go.Joins.trod_struct4 Tryz.underlying63 h
 rw [cCh] at hl
 simp only [Prod.mk.injEq,DataW.agg.injEq,List.cons.injEq,and_true] at hx
 obtain ⟨⟨x0,x1,x2,x3⟩,_⟩:=hx
 match cs,hl with
 | [c0,c1,c2,c3],_=>
  simp only [cI,cB,List.drop_zero,List.drop_succ_cons,List.take_succ_cons,List.take_zero] at h0 h1 h2 h3
  obtain ⟨n0,e0,g0,_⟩:=DataW.trod_int Tryz.underlying2 h0
  obtain ⟨n1,e1,g1⟩:=DataW.trod_bool Tryz.underlying4 h1
  obtain ⟨n2,e2,g2⟩:=DataW.trod_bool Tryz.underlying4 h2
  obtain ⟨n3,e3,g3,_⟩:=DataW.trod_int Tryz.underlying2 h3
  simp only [List.cons.injEq,and_true] at e0 e1 e2 e3
  rw [g0] at x0
  rw [g1] at x1
  rw [g2] at x2
  rw [g3] at x3
  simp at x0 x1 x2 x3
  rw [e0,e1,e2,e3,x0,x1,x2,x3]

theorem rule_cells {fuel:Nat} {cs:List Value} {z o p c v:Int} {d k:Bool} {q:List MemPlace} (h:DataW.trod enc Tryz.prog w base spare held fuel 186 cs=some (.agg [.lit (.int .i64 z),.lit (.int .i64 o),.lit (.int .i64 p),.agg [.lit (.int .i64 c),.lit (.bool d),.lit (.bool k),.lit (.int .i64 v)]],q)) :
  cs=[.int .i64 z,.int .i64 o,.int .i64 p,.int .i64 c,.bool d,.bool k,.int .i64 v]:=by
 obtain ⟨y0,y1,y2,y3,n,hx,hl,h0,h1,h2,h3⟩:=Go.Joins.trod_struct4 Tryz.underlying186 h
 rw [cRule] at hl
 simp only [Prod.mk.injEq,DataW.agg.injEq,List.cons.injEq,and_true] at hx
 obtain ⟨⟨x0,x1,x2,x3⟩,_⟩:=hx
 match cs,hl with
 | [c0,c1,c2,c3,c4,c5,c6],_=>
  simp only [cI,cCh,List.drop_zero,List.drop_succ_cons,List.take_succ_cons,List.take_zero] at h0 h1 h2 h3
  obtain ⟨n0,e0,g0,_⟩:=DataW.trod_int Tryz.underlying2 h0
  obtain ⟨n1,e1,g1,_⟩:=DataW.trod_int Tryz.underlying2 h1
  obtain ⟨n2,e2,g2,_⟩:=DataW.trod_int Tryz.underlying2 h2
  obtain ⟨y30,y31⟩:=y3
  dsimp only at x3
  rw [← x3] at h3
  have e3:=choice_cells h3
  simp only [List.cons.injEq,and_true] at e0 e1 e2 e3
  rw [g0] at x0
  rw [g1] at x1
  rw [g2] at x2
  simp at x0 x1 x2
  obtain ⟨e3,e4,e5,e6⟩:=e3
  rw [e0,e1,e2,e3,e4,e5,e6,x0,x1,x2]

end
end Go.Proofs.YtjjolkihiclopaaGreatDoor
namespace Go.Proofs.YtjjolkihiclopaaGreatDoor
open Go.RowKit
open Go.BigFrame
set_option maxRecDepth 100000
def sameA (x y:ActD):Bool:=(x.kind == y.kind) && ((x.key == y.key) && (x.val == y.val))

def sameAs:List ActD→List ActD→Bool
 | [],[]=>true
 | x :: r,y :: s=>sameA x y && sameAs r s
 | _,_=>false

def sameT (x y:TxnD):Bool:=(x.id == y.id) && (x.session == y.session) && (x.seq == y.seq) && sameAs x.acts y.acts

def sameTs:List TxnD→List TxnD→Bool
 | [],[]=>true
 | x :: r,y :: s=>sameT x y && sameTs r s
 | _,_=>false

/-- A comparison of two lists, place by place. -/
theorem same_len {α:Type} {f:α→α→Bool} {g:List α→List α→Bool} (h0:g [] []=true) (h1:∀ x r y s,g (x :: r) (y :: s)=(f x y && g r s)) (h2:∀ x r,g (x :: r) []=false) (h3:∀ y s,g [] (y :: s)=false) :
  ∀ a b,a.length≠b.length→g a b=false:=by
 intro a
 induction a with
 | nil=>intro b h;cases b with | nil=>simp at h | cons y s=>exact h3 y s
 | cons x r ih=>intro b h;cases b with | nil=>exact h2 x r | cons y s=>rw [h1,ih s (by simpa using h)];simp

theorem same_bad {α:Type} {f:α→α→Bool} {g:List α→List α→Bool} (d:α) (h1:∀ x r y s,g (x :: r) (y :: s)=(f x y && g r s)) :
  ∀ a b k,a.length=b.length→k < a.length→f (a.getD k d) (b.getD k d)=false→g a b=false:=by
 intro a
 induction a with
 | nil=>intro b k _ h;simp at h
 | cons x r ih=>
  intro b k hl hk hf
  cases b with
  | nil=>simp at hl
  | cons y s=>
   rw [h1]
   cases k with
   | zero=>simp [List.getD] at hf;simp [hf]
   | succ k=>rw [ih s k (by simpa using hl) (by simpa using hk) (by simpa [List.getD] using hf)];simp

theorem same_all {α:Type} {f:α→α→Bool} {g:List α→List α→Bool} (d:α) (h0:g [] []=true) (h1:∀ x r y s,g (x :: r) (y :: s)=(f x y && g r s)) :
  ∀ a b,a.length=b.length→(∀ k,k < a.length→f (a.getD k d) (b.getD k d)=true)→g a b=true:=by
 intro a
 induction a with
 | nil=>intro b hl _;cases b with | nil=>exact h0 | cons y s=>simp at hl
 | cons x r ih=>
  intro b hl hf
  cases b with
  | nil=>simp at hl
  | cons y s=>
   rw [h1,ih s (by simpa using hl) (fun k hk=>by simpa [List.getD] using hf (k + 1) (by simpa using hk))]
   have:=hf 0 (by simp)
   simp [List.getD] at this
   simp [this]

theorem eqAct_run (x0 x1 x2 y0 y1 y2:Int) (w:World):(binOp .neq 113 (.agg #[.int .i64 x0,.int .i64 x1,.int .i64 x2]) (.agg #[.int .i64 y0,.int .i64 y1,.int .i64 y2])).run Tryz.prog w=.ok (.bool (!sameA ⟨x0,x1,x2⟩ ⟨y0,y1,y2⟩)) w:=by
 rw [run_neq_struct,run_equalIn_struct (P:=Tryz.prog) w 9999 113 _ _ (by kernel_rfl) (by kernel_rfl)]
 have c1:Tryz.prog.cellsOf 2=1:=by kernel_rfl
 cases h0:(x0 == y0) <;> cases h1:(x1 == y1) <;> cases h2:(x2 == y2) <;> simp [Program.fieldsOf,Tryz.underlying113,Op.eqFields,go_sem,Tryz.underlying2,h0,h1,h2,sameA,c1]

set_option maxRecDepth 100000 in
set_option maxHeartbeats 2000000 in
theorem equalA_any (a a' : Option Addr) (cap cap' : Nat) (xs ys:List ActD) (w:World) (h:ActRow w a xs) (h' : ActRow w a' ys) (hl:xs.length≤1048576) (hl' : ys.length≤1048576) :
  Calls Tryz.prog 72 #[.slice a xs.length cap,.slice a' ys.length cap'] w fun e w' => e=.returned (.bool (sameAs xs ys))∧Below w.heap.size w w' := by
 by_cases hlen:xs.length=ys.length
 case neg=>
  have E:sameAs xs ys=false:=same_len (f:=sameA) rfl (fun _ _ _ _=>rfl) (fun _ _=>rfl) (fun _ _=>rfl) xs ys hlen
  rw [E]
  have hd:((xs.length:Int) != (ys.length:Int))=true:=by simp;omega
  go_enter Tryz.func72,Tryz.ntmps72
  go_wp2
  go_ret
  exact ⟨rfl,Below.refl _ _⟩
 case pos=>
  have hd:((xs.length:Int) != (ys.length:Int))=false:=by simp [hlen]
  have HL:Hid (xs.length=ys.length):=hlen
  clear hlen
  go_enter Tryz.func72,Tryz.ntmps72
  go_wp2
  go_loopw [13] (fun i wr=>∃ k m:Nat,k≤xs.length∧i=.int .i64 k∧wr=w.drewN m∧Hid (∀ j,j < k→sameA (xs.getD j actNo) (ys.getD j actNo)=true)) (fun i _=>xs.length - (intOf i).toNat)
  case atStart=>exact ⟨0,0,Nat.zero_le _,rfl,rfl,fun j hj=>absurd hj (Nat.not_lt_zero _)⟩
  case round=>
   obtain ⟨k,m,hk,rfl,rfl,HA⟩:=hrel
   by_cases hlt:k < xs.length
   ·have hlt' : k < ys.length:=by have:=HL.out;omega
    obtain ⟨b,off,rfl,hbs,hc0,hc1,hc2⟩:=h.at k hlt
    obtain ⟨b',off',rfl,hbs',hd0,hd1,hd2⟩:=h'.at k hlt'
    cases hs:sameA (xs.getD k actNo) (ys.getD k actNo)
    case false=>
     have E:Hid (sameAs xs ys=false):=same_bad (f:=sameA) actNo (fun _ _ _ _=>rfl) xs ys k HL.out hlt hs
     have hr:=eqAct_run (xs.getD k actNo).kind (xs.getD k actNo).key (xs.getD k actNo).val (ys.getD k actNo).kind (ys.getD k actNo).key (ys.getD k actNo).val
     rw [show sameA ⟨(xs.getD k actNo).kind,(xs.getD k actNo).key,(xs.getD k actNo).val⟩ ⟨(ys.getD k actNo).kind,(ys.getD k actNo).key,(ys.getD k actNo).val⟩=false from hs,Bool.not_false] at hr
     clear HA hs
     generalize xs.getD k actNo=z at hc0 hc1 hc2 hr
     generalize ys.getD k actNo=z' at hd0 hd1 hd2 hr
     go_wp2
     go_quiet (fail)
     go_wp2
     go_ret
     rw [E.out]
     exact ⟨rfl,⟨rfl,rfl,rfl,Nat.le_refl _,fun _ _=>rfl⟩⟩
    case true=>
     have HB:Hid (∀ j,j < k + 1→sameA (xs.getD j actNo) (ys.getD j actNo)=true):=by
      intro j hj
      by_cases hjk:j=k
      ·subst hjk;exact hs
      ·exact HA.out j (by omega)
     have hr:=eqAct_run (xs.getD k actNo).kind (xs.getD k actNo).key (xs.getD k actNo).val (ys.getD k actNo).kind (ys.getD k actNo).key (ys.getD k actNo).val
     rw [show sameA ⟨(xs.getD k actNo).kind,(xs.getD k actNo).key,(xs.getD k actNo).val⟩ ⟨(ys.getD k actNo).kind,(ys.getD k actNo).key,(ys.getD k actNo).val⟩=true from hs,Bool.not_true] at hr
     clear HA hs
     generalize xs.getD k actNo=z at hc0 hc1 hc2 hr
     generalize ys.getD k actNo=z' at hd0 hd1 hd2 hr
     go_wp2
     go_quiet (fail)
     go_wp2
     go_roundw
     case rel=>exact ⟨k + 1,_,by omega,by go_num,rfl,HB⟩
     case measure=>simp [intOf];omega
   ·have E:Hid (sameAs xs ys=true):=same_all (f:=sameA) actNo rfl (fun _ _ _ _=>rfl) xs ys HL.out (fun j hj=>HA.out j (by omega))
    clear HA
    go_wp2
    go_ret
    rw [E.out]
    exact ⟨rfl,⟨rfl,rfl,rfl,Nat.le_refl _,fun _ _=>rfl⟩⟩

theorem sameT_ways (x y:TxnD):((x.id == y.id)=false∧sameT x y=false)∨((x.id == y.id)=true∧(x.session == y.session)=false∧sameT x y=false)∨((x.id == y.id)=true∧(x.session == y.session)=true∧(x.seq == y.seq)=false∧sameT x y=false) ∨
  ((x.id == y.id)=true∧(x.session == y.session)=true∧(x.seq == y.seq)=true∧sameT x y=sameAs x.acts y.acts):=by
 unfold sameT
 cases h1:(x.id == y.id) <;> cases h2:(x.session == y.session) <;> cases h3:(x.seq == y.seq) <;> simp

set_option maxRecDepth 100000 in
set_option maxHeartbeats 2000000 in
theorem isSameTxn_any (x y:TxnD) (a a' : Option Addr) (cap cap' : Nat) (w:World) (h:ActRow w a x.acts) (h' : ActRow w a' y.acts) (hl:x.acts.length≤1048576) (hl' : y.acts.length≤1048576) :
    Calls Tryz.prog 48 #[.agg #[.int .i64 x.id,.int .i64 x.session,.int .i64 x.seq,.slice a x.acts.length cap],.agg #[.int .i64 y.id,.int .i64 y.session,.int .i64 y.seq,.slice a' y.acts.length cap']] w fun e w' => e=.returned (.bool (sameT x y))∧Below w.heap.size w w' := by
  have hq:=fun w h h' => equalA_any a a' cap cap' x.acts y.acts w h h' hl hl'
  rcases sameT_ways x y with ⟨h1,e⟩ | ⟨h1,h2,e⟩ | ⟨h1,h2,h3,e⟩ | ⟨h1,h2,h3,e⟩ <;> rw [e] <;> clear e
  all_goals
    (generalize sameAs x.acts y.acts=r at hq
     obtain ⟨x0,x1,x2,xs⟩:=x
     obtain ⟨y0,y1,y2,ys⟩:=y
     dsimp only at *)
  all_goals
    (go_enter Tryz.func48,Tryz.ntmps48
     go_wp2_with (go_at_call 72;refine (hq _ (h.below (by go_grown)) (h'.below (by go_grown))).mono ?_;rintro e w' ⟨rfl,hb⟩)
     go_ret)
  · exact ⟨rfl,by go_grown⟩
  · exact ⟨rfl,by go_grown⟩
  · exact ⟨rfl,by go_grown⟩
  · exact ⟨rfl,below_from (by go_grown) hb⟩

end Go.Proofs.YtjjolkihiclopaaGreatDoor
namespace Go.Proofs.YtjjolkihiclopaaGreatDoor
open Go.RowKit
open Go.BigFrame
set_option maxRecDepth 100000
set_option maxRecDepth 100000 in
set_option maxHeartbeats 2000000 in
theorem equalFunc_any (v v' : Value) (xs ys:List TxnD) (w:World) (h:TxnsAt w v xs) (h' : TxnsAt w v' ys) (hl:xs.length + sumA xs≤1048576) (hl' : ys.length + sumA ys≤1048576) :
  Calls Tryz.prog 47 #[v,v',.func (.func 48) #[] #[]] w fun e w' => e=.returned (.bool (sameTs xs ys))∧Below w.heap.size w w' := by
 obtain ⟨a,cap,rfl⟩:=h.shape
 obtain ⟨a',cap',rfl⟩:=h'.shape
 by_cases hlen:xs.length=ys.length
 case neg=>
  have E:sameTs xs ys=false:=same_len (f:=sameT) rfl (fun _ _ _ _=>rfl) (fun _ _=>rfl) (fun _ _=>rfl) xs ys hlen
  rw [E]
  have hd:((xs.length:Int) != (ys.length:Int))=true:=by simp;omega
  go_enter Tryz.func47,Tryz.ntmps47
  go_wp2
  go_ret
  exact ⟨rfl,Below.refl _ _⟩
 case pos=>
  have hd:((xs.length:Int) != (ys.length:Int))=false:=by simp [hlen]
  have HL:Hid (xs.length=ys.length):=hlen
  clear hlen
  go_enter Tryz.func47,Tryz.ntmps47
  go_wp2
  go_loopw [17] (fun i wr=>∃ k:Nat,k≤xs.length∧i=.int .i64 k∧Below w.heap.size w wr∧Hid (∀ j,j < k→sameT (xs.getD j txnNo) (ys.getD j txnNo)=true)) (fun i _=>xs.length - (intOf i).toNat)
  case atStart=>exact ⟨0,Nat.zero_le _,rfl,Below.refl _ _,fun j hj=>absurd hj (Nat.not_lt_zero _)⟩
  case round=>
   obtain ⟨k,hk,rfl,hb,HA⟩:=hrel
   by_cases hlt:k < xs.length
   ·have hlt' : k < ys.length:=by have:=HL.out;omega
    obtain ⟨b,off,aa,cc,rfl,hbs,hc0,hc1,hc2,hc3,hA⟩:=(h.below hb).at k hlt
    obtain ⟨b',off',aa',cc',rfl,hbs',hd0,hd1,hd2,hd3,hA'⟩:=(h'.below hb).at k hlt'
    have hzl:(xs.getD k txnNo).acts.length≤sumA xs:=mem_le_sumA (by simp [List.getD,hlt])
    have hzl' : (ys.getD k txnNo).acts.length≤sumA ys:=mem_le_sumA (by simp [List.getD,hlt'])
    have hq:=fun w h h' => isSameTxn_any (xs.getD k txnNo) (ys.getD k txnNo) aa aa' cc cc' w h h' (by omega) (by omega)
    have hs5:=hb.size
    have hal:∀ (o:Obj) (j:Nat),(wr.alloc o).cell? ⟨b',j,none⟩=wr.cell? ⟨b',j,none⟩:=fun o j=>(show Below wr.heap.size wr (wr.alloc o) by go_grown).cell (p:=⟨b',j,none⟩) hbs'
    cases hs:sameT (xs.getD k txnNo) (ys.getD k txnNo)
    case false=>
     have E:Hid (sameTs xs ys=false):=same_bad (f:=sameT) txnNo (fun _ _ _ _=>rfl) xs ys k HL.out hlt hs
     rw [hs] at hq
     clear HA hs
     generalize xs.getD k txnNo=z at hc0 hc1 hc2 hc3 hA hq hzl
     generalize ys.getD k txnNo=z' at hd0 hd1 hd2 hd3 hA' hq hzl'
     obtain ⟨z0,z1,z2,zs⟩:=z
     obtain ⟨y0,y1,y2,us⟩:=z'
     dsimp only at hc0 hc1 hc2 hc3 hA hd0 hd1 hd2 hd3 hA' hq hzl hzl'
     go_wp2_with fail
     refine (hq _ (hA.below (by go_grown)) (hA'.below (by go_grown))).mono ?_
     rintro e w2 ⟨rfl,hb2⟩
     go_wp2
     go_ret
     rw [E.out]
     exact ⟨rfl,below_from (below_from hb (by go_grown)) hb2⟩
    case true=>
     have HB:Hid (∀ j,j < k + 1→sameT (xs.getD j txnNo) (ys.getD j txnNo)=true):=by
      intro j hj
      by_cases hjk:j=k
      ·subst hjk;exact hs
      ·exact HA.out j (by omega)
     rw [hs] at hq
     clear HA hs
     generalize xs.getD k txnNo=z at hc0 hc1 hc2 hc3 hA hq hzl
     generalize ys.getD k txnNo=z' at hd0 hd1 hd2 hd3 hA' hq hzl'
     obtain ⟨z0,z1,z2,zs⟩:=z
     obtain ⟨y0,y1,y2,us⟩:=z'
     dsimp only at hc0 hc1 hc2 hc3 hA hd0 hd1 hd2 hd3 hA' hq hzl hzl'
     go_wp2_with fail
     refine (hq _ (hA.below (by go_grown)) (hA'.below (by go_grown))).mono ?_
     rintro e w2 ⟨rfl,hb2⟩
     have hb3:=below_from (below_from hb (by go_grown)) hb2
     clear hb2 hal hc0 hc1 hc2 hc3 hd0 hd1 hd2 hd3 hA hA' hq
     go_wp2
     go_roundw
     case rel=>exact ⟨k + 1,by omega,by go_num,hb3,HB⟩
     case measure=>simp [intOf];omega
   ·have E:Hid (sameTs xs ys=true):=same_all (f:=sameT) txnNo rfl (fun _ _ _ _=>rfl) xs ys HL.out (fun j hj=>HA.out j (by omega))
    clear HA
    go_wp2
    go_ret
    rw [E.out]
    exact ⟨rfl,hb⟩

set_option maxRecDepth 100000 in
set_option maxHeartbeats 1000000 in
theorem implSameTxns_any (v v' : Value) (xs ys:List TxnD) (w:World) (h:TxnsAt w v xs) (h' : TxnsAt w v' ys) (hl:xs.length + sumA xs≤1048576) (hl' : ys.length + sumA ys≤1048576) :
  Calls Tryz.prog 21 #[v,v'] w fun e w' => e=.returned (.bool (sameTs xs ys))∧Below w.heap.size w w' := by
 have hq:=equalFunc_any v v' xs ys w h h' hl hl'
 generalize sameTs xs ys=r at hq
 go_enter Tryz.func21,Tryz.ntmps21
 go_wp2_with fail
 refine hq.mono ?_
 rintro e w2 ⟨rfl,hb⟩
 go_wp2
 go_ret
 exact ⟨rfl,hb⟩

end Go.Proofs.YtjjolkihiclopaaGreatDoor
namespace Go.Proofs.YtjjolkihiclopaaGreatDoor
open Go.RowKit
open Go.BigFrame
set_option maxRecDepth 100000
theorem sameT_ways2 (x y:TxnD):((x.id != y.id)=true∧sameT x y=false)∨((x.id != y.id)=false∧(x.session != y.session)=true∧sameT x y=false)∨((x.id != y.id)=false∧(x.session != y.session)=false∧(x.seq != y.seq)=true∧sameT x y=false) ∨
  ((x.id != y.id)=false∧(x.session != y.session)=false∧(x.seq != y.seq)=false∧((x.acts.length:Int) != (y.acts.length:Int))=true∧sameT x y=false) ∨
  ((x.id != y.id)=false∧(x.session != y.session)=false∧(x.seq != y.seq)=false∧((x.acts.length:Int) != (y.acts.length:Int))=false∧sameT x y=sameAs x.acts y.acts):=by
 by_cases hl:x.acts.length=y.acts.length
 ·rcases sameT_ways x y with ⟨h1,e⟩ | ⟨h1,h2,e⟩ | ⟨h1,h2,h3,e⟩ | ⟨h1,h2,h3,e⟩ <;> simp [bne, *]
 ·have hs:sameAs x.acts y.acts=false:=same_len (f:=sameA) rfl (fun _ _ _ _=>rfl) (fun _ _=>rfl) (fun _ _=>rfl) _ _ hl
  have hl2:¬ ((x.acts.length:Int)=(y.acts.length:Int)):=by omega
  rcases sameT_ways x y with ⟨h1,e⟩ | ⟨h1,h2,e⟩ | ⟨h1,h2,h3,e⟩ | ⟨h1,h2,h3,e⟩ <;> simp [bne, *]

set_option maxRecDepth 100000 in
set_option maxHeartbeats 4000000 in
theorem l2Same_any (x y:TxnD) (b o b' o' : Nat) (a a' : Option Addr) (cap cap' : Nat) (w:World) (hB:Box4 w b o (.int .i64 x.id) (.int .i64 x.session) (.int .i64 x.seq) (.slice a x.acts.length cap)) (hB' : Box4 w b' o' (.int .i64 y.id) (.int .i64 y.session) (.int .i64 y.seq) (.slice a' y.acts.length cap'))
  (h:ActRow w a x.acts) (h' : ActRow w a' y.acts) (hl:x.acts.length≤1048576) (hl' : y.acts.length≤1048576) :
  Calls Tryz.prog 102 #[.pointer (some ⟨b,o,none⟩),.pointer (some ⟨b',o',none⟩)] w fun e w' => e=.returned (.bool (sameT x y))∧Below w.heap.size w w' := by
 obtain ⟨c0,c1,c2,c3⟩:=hB
 obtain ⟨d0,d1,d2,d3⟩:=hB'
 rcases sameT_ways2 x y with ⟨h1,e⟩ | ⟨h1,h2,e⟩ | ⟨h1,h2,h3,e⟩ | ⟨h1,h2,h3,h4,e⟩ | ⟨h1,h2,h3,h4,e⟩ <;> rw [e] <;> clear e <;> obtain ⟨x0,x1,x2,xs⟩:=x <;> obtain ⟨y0,y1,y2,ys⟩:=y <;> dsimp only at *
 ·go_enter Tryz.func102,Tryz.ntmps102
  go_wp2_with fail
  go_quiet (fail)
  go_wp2
  go_ret
  exact ⟨rfl,⟨rfl,rfl,rfl,Nat.le_refl _,fun _ _=>rfl⟩⟩
 ·go_enter Tryz.func102,Tryz.ntmps102
  go_wp2_with fail
  go_quiet (fail)
  go_wp2
  go_ret
  exact ⟨rfl,⟨rfl,rfl,rfl,Nat.le_refl _,fun _ _=>rfl⟩⟩
 ·go_enter Tryz.func102,Tryz.ntmps102
  go_wp2_with fail
  go_quiet (fail)
  go_wp2
  go_ret
  exact ⟨rfl,⟨rfl,rfl,rfl,Nat.le_refl _,fun _ _=>rfl⟩⟩
 ·go_enter Tryz.func102,Tryz.ntmps102
  go_wp2_with fail
  go_quiet (fail)
  go_wp2
  go_ret
  exact ⟨rfl,⟨rfl,rfl,rfl,Nat.le_refl _,fun _ _=>rfl⟩⟩
 ·have hlen:xs.length=ys.length:=by simp at h4;omega
  have HL:Hid (xs.length=ys.length):=hlen
  clear hlen
  go_enter Tryz.func102,Tryz.ntmps102
  go_wp2_with fail
  go_quiet (fail)
  go_wp2
  go_loopw [5] (fun i wr=>∃ k m:Nat,k≤xs.length∧i=.int .i64 k∧wr=w.drewN m∧Hid (∀ j,j < k→sameA (xs.getD j actNo) (ys.getD j actNo)=true)) (fun i _=>xs.length - (intOf i).toNat)
  case atStart=>exact ⟨0,_,Nat.zero_le _,rfl,rfl,fun j hj=>absurd hj (Nat.not_lt_zero _)⟩
  case round=>
   obtain ⟨k,m,hk,rfl,rfl,HA⟩:=hrel
   by_cases hlt:k < xs.length
   ·have hlt' : k < ys.length:=by have:=HL.out;omega
    obtain ⟨bb,off,rfl,hbs,hc0,hc1,hc2⟩:=h.at k hlt
    obtain ⟨bb',off',rfl,hbs',hd0,hd1,hd2⟩:=h'.at k hlt'
    have hr:=eqAct_run (xs.getD k actNo).kind (xs.getD k actNo).key (xs.getD k actNo).val (ys.getD k actNo).kind (ys.getD k actNo).key (ys.getD k actNo).val
    cases hs:sameA (xs.getD k actNo) (ys.getD k actNo)
    case false=>
     have E:Hid (sameAs xs ys=false):=same_bad (f:=sameA) actNo (fun _ _ _ _=>rfl) xs ys k HL.out hlt hs
     rw [show sameA ⟨(xs.getD k actNo).kind,(xs.getD k actNo).key,(xs.getD k actNo).val⟩ ⟨(ys.getD k actNo).kind,(ys.getD k actNo).key,(ys.getD k actNo).val⟩=false from hs,Bool.not_false] at hr
     clear HA hs
     generalize xs.getD k actNo=z at hc0 hc1 hc2 hr
     generalize ys.getD k actNo=z' at hd0 hd1 hd2 hr
     go_wp2
     go_quiet (fail)
     go_wp2
     go_ret
     rw [E.out]
     exact ⟨rfl,⟨rfl,rfl,rfl,Nat.le_refl _,fun _ _=>rfl⟩⟩
    case true=>
     have HB:Hid (∀ j,j < k + 1→sameA (xs.getD j actNo) (ys.getD j actNo)=true):=by
      intro j hj
      by_cases hjk:j=k
      ·subst hjk;exact hs
      ·exact HA.out j (by omega)
     rw [show sameA ⟨(xs.getD k actNo).kind,(xs.getD k actNo).key,(xs.getD k actNo).val⟩ ⟨(ys.getD k actNo).kind,(ys.getD k actNo).key,(ys.getD k actNo).val⟩=true from hs,Bool.not_true] at hr
     clear HA hs
     generalize xs.getD k actNo=z at hc0 hc1 hc2 hr
     generalize ys.getD k actNo=z' at hd0 hd1 hd2 hr
     go_wp2
     go_quiet (fail)
     go_wp2
     go_roundw
     case rel=>exact ⟨k + 1,_,by omega,by go_num,rfl,HB⟩
     case measure=>simp [intOf];omega
   ·have E:Hid (sameAs xs ys=true):=same_all (f:=sameA) actNo rfl (fun _ _ _ _=>rfl) xs ys HL.out (fun j hj=>HA.out j (by omega))
    clear HA
    go_wp2
    go_ret
    rw [E.out]
    exact ⟨rfl,⟨rfl,rfl,rfl,Nat.le_refl _,fun _ _=>rfl⟩⟩

end Go.Proofs.YtjjolkihiclopaaGreatDoor
