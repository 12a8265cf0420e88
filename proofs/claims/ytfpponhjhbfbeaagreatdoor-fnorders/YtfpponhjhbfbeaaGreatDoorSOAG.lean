/- Texts joined,with what the laws reach alone. -/
import Derived.Test.YtfpponhjhbfbeaaGreatDoorSOAF
import Derived.Shelf.SortM.Plain
import Derived.Shelf.SortM.SortNone
import Derived.Shelf.SlicesG.In.CompactI
import Derived.Sort.EveryDepth
set_option linter.unusedVariables false
set_option linter.unusedSimpArgs false
set_option maxRecDepth 100000
set_option maxHeartbeats 4000000
namespace Go.Proofs.YtfpponhjhbfbeaaGreatDoor
open Go.RowKit Go.BigFrame
def slA:Value→Option Addr
 | .slice a _ _=>a
 |_=>none
def slK:Value→Nat
 | .slice _ _ k=>k
 |_=>0
def TxnQ.p(q:TxnQ):TxnP:=⟨q.e,slA q.va,slK q.va⟩
theorem TxnQ.p_cells{w:World}{q:TxnQ}(h:actK.At w q.va q.acts):q.p.cells=txnK.cells q:=by
 obtain⟨a,c,e⟩:=h.shape;show [_,_,_,_]=[_,_,_,_]
 simp only[TxnP.sl,TxnQ.p,TxnQ.e,e,slA,slK]
theorem z1T{w:World}{v:Value}{ps:List TxnQ}(h:txnK.At w v ps):TxnsAt w v (ps.map TxnQ.e):=by
 obtain⟨a,cap,e,hL,hr⟩:=h;refine⟨a,cap,ps.map TxnQ.p,by rw[List.length_map];exact e,by simp only[List.map_map];rfl,?_,?_⟩
 ·have e2:z0w (ps.map TxnQ.p)=txnK.row ps:=by
   clear hL e;induction ps with
   |nil=>rfl
   |cons q r ih=>
    have h1:q.p.cells=txnK.cells q:=TxnQ.p_cells (hr q (by simp));have h2:=ih (fun p hp=>hr p (List.mem_cons_of_mem _ hp));show q.p.cells++z0w (r.map TxnQ.p)=txnK.cells q++txnK.row r;rw[h1,h2]
  rw[e2];exact hL
 ·intro p hp;obtain⟨q,hq,rfl⟩:=List.mem_map.1 hp;have h1:actK.At w q.va q.acts:=hr q hq;obtain⟨a',c',e',hl',_⟩:=h1;show ActRow w (slA q.va) q.acts;rw[e'];exact hl'
theorem z5N(ps:List TxnQ):z4a (ps.map TxnQ.e)=nmL TxnQ.n ps:=by
 simp only[z4a,nmL,List.map_map];rfl
theorem z7r(L:List Int)(x:Int):idxN L x<L.length↔x∈L:=by
 induction L with
 |nil=>simp[idxN]
 |cons y r ih=>
  by_cases h:y=x
  ·simp[idxN,h]
  ·have:¬x=y:=fun e=>h e.symm
   simp[idxN,h,this,ih]
theorem z7s{L:List Int}{x:Int}(h:x∈L):0≤idxI L x:=by
 unfold idxI;rw[if_pos ((z7r L x).2 h)];omega
theorem z6l{L:List Int}{x:Int}(h:x∉L):idxI L x=-1:=by
 unfold idxI;rw[if_neg (fun e=>h ((z7r L x).1 e))]
theorem z6P{L:List Int}{k:Nat}(h:(L.take k).Nodup)(hk:k<L.length)(hx:L.getD k 0∉L.take k):(L.take (k+1)).Nodup:=by
 have e:L.getD k 0=L[k]:=by simp[List.getD,hk]
 rw[e]at hx;rw[List.take_succ_eq_append_getElem hk,List.nodup_append];refine⟨h,by simp,fun a ha b hb e=>?_⟩;simp only[List.mem_singleton]at hb;subst hb e;exact hx ha
theorem z7t{L:List Int}{k:Nat}(hk:k<L.length)(hx:L.getD k 0∈L.take k):¬L.Nodup:=by
 intro h;have e:L.getD k 0=L[k]:=by simp[List.getD,hk]
 rw[e]at hx;have h2:(L.take (k+1)).Nodup:=List.Sublist.nodup (List.take_sublist _ _) h;rw[List.take_succ_eq_append_getElem hk,List.nodup_append]at h2;exact h2.2.2 _ hx _ (by simp) rfl
theorem Row.take6{k:IntKind}{w:World}{a:Option Addr}{zs:List Int}(h:Row k w a zs)(j:Nat):Row k w a (zs.take j):=by
 intro i hi;have hi2:i<j∧i<zs.length:=by rw[List.length_take]at hi;omega
 obtain⟨b,off,ha,hlt,hc⟩:=h i hi2.2;refine⟨b,off,ha,hlt,?_⟩;rw[hc];simp[List.getD,List.getElem?_take,hi2.1]
theorem z6m{w:World}{base e s n c:Nat}{a:Option Addr}{xs:List Value}(h:w.ownsRow base e s (.slice a n c) n xs):n≤c:=by
 rcases h.2 with⟨he,hn⟩|⟨g,cap,cur,he,_,_,hc,_⟩
 ·omega
 ·simp only[Value.slice.injEq,true_and]at he;omega
theorem q0N(b off n c k:Nat)(hk:k≤c)(w:World):(Instr.sliceAt 47 (.slice (some ⟨b,off,none⟩) n c) none (some (.int .i64 (k:Int))) none).run Tryz.prog w=.ok (.slice (some ⟨b,off,none⟩) k c) w:=by
 have hel:Tryz.prog.elem 47=2:=by kernel_rfl
 have hun:Tryz.prog.underlying 47=some (.slice (Tryz.prog.elem 47)):=by kernel_rfl
 have hsz:(sizeOf (Tryz.prog.elem 47)).run Tryz.prog w=.ok 1 w:=by rw[hel];kernel_rfl
 rw[run_sliceAt_slice (h:=hun),run_slice_h (ht:=hun) (kh:=.i64) (h:=(k:Int)) (h0:=by omega) (h2:=by omega),hsz];simp only[Result.andThen,sliced,Int.toNat_natCast];split
 ·rename_i h
  simp
 ·simp only[Option.map_some,Addr.add_lit,Nat.zero_mul,Nat.add_zero,Nat.sub_zero]
theorem z2u{ds:List TxnD}(h:ds.length<1∨4<ds.length):batF ds=2:=if_pos h
theorem z6n{ds:List TxnD}(h:¬(ds.length<1∨4<ds.length)):batF ds=if allF ds=0 then(if(ds.map TxnD.id).Nodup then 0 else 6)else allF ds:=if_neg h
theorem z3K(v:Value)(ds:List TxnD)(w:World)(h:TxnsAt w v ds)(hl:ds.length+z4a ds≤1048576):
  Calls Tryz.prog 128 #[v] w fun e w'=>e=.returned (.int .i64 (batF ds))∧Below w.heap.size w w':=by
 obtain⟨a,cap,rfl⟩:=h.shape;by_cases hlo:ds.length<1
 ·rw[z2u (Or.inl hlo)];go_enter Tryz.func128,Tryz.ntmps128
  go_wp2
  go_ret;exact⟨rfl,Below.refl _ _⟩
 ·by_cases hhi:4<ds.length
  ·rw[z2u (Or.inr hhi)];go_enter Tryz.func128,Tryz.ntmps128
   go_wp2
   go_ret;exact⟨rfl,Below.refl _ _⟩
  ·have HB:Hid (batF ds=if allF ds=0 then(if(ds.map TxnD.id).Nodup then 0 else 6)else allF ds):=z6n (by omega);generalize batF ds=E at HB⊢;have hlo':1≤ds.length:=by omega
   have hhi':ds.length≤4:=by omega
   clear hlo hhi;go_enter Tryz.func128,Tryz.ntmps128
   go_wp2
   go_loop[3] (fun j=>∃k:Nat,k≤ds.length∧j=.int .i64 k∧Hid (∀j,j<k→(ds.getD j z0o).F=0)) (fun j=>ds.length-(intOf j).toNat)
   case atStart=>exact⟨0,Nat.zero_le _,rfl,fun j hj=>absurd hj (Nat.not_lt_zero _)⟩
   case round=>
    obtain⟨k,hk,rfl,HA⟩:=hrel;by_cases hlt:k<ds.length
    ·obtain⟨b,off,aa,cc,rfl,hbs,hc0,hc1,hc2,hc3,hA⟩:=h.at k hlt;have hzl:(ds.getD k z0o).acts.length≤z4a ds:=z03 (by simp[List.getD,hlt]);have hcall:=z5H b (off+k*4) _ _ _ aa cc _ w (TxnsAt.box hc0 hc1 hc2 hc3) hA (by omega);change Calls _ _ _ _ fun e w'=>e=.returned (.int .i64 ((ds.getD k z0o).F))∧_ at hcall
     clear hc0 hc1 hc2 hc3 hA;by_cases hF:(ds.getD k z0o).F=0
     ·have HB2:Hid (∀j,j<k+1→(ds.getD j z0o).F=0):=by
       intro j hj;by_cases hjk:j=k
       ·subst hjk;exact hF
       ·exact HA.out j (by omega)
      rw[hF]at hcall;clear HA hF
      go_wp2_with (go_at_call 154;refine hcall.mono ?_;rintro e w' ⟨rfl,rfl⟩)
      go_round
      case rel=>exact⟨k+1,by omega,by go_num,HB2⟩
      case measure=>simp[intOf];omega
     ·have E2:Hid (E=(ds.getD k z0o).F):=by
       have e1:=z4l ds k HA.out hlt hF;have e2:=HB.out;rw[e1,if_neg hF]at e2;exact e2
      have hne:((ds.getD k z0o).F !=0)=true:=by simpa using hF
      clear HA hF HB;generalize (ds.getD k z0o).F=r at hcall E2 hne
      go_wp2_with (go_at_call 154;refine hcall.mono ?_;rintro e w' ⟨rfl,rfl⟩)
      go_ret;rw[E2.out];exact⟨rfl,Below.refl _ _⟩
    ·have hkl:k=ds.length:=by omega
     subst hkl;have E3:Hid (E=if(ds.map TxnD.id).Nodup then 0 else 6):=by
      have e2:=HB.out;rw[if_pos (z5j ds HA.out)]at e2;exact e2
     clear HA HB;have hids:=z3I _ ds w h (by omega)
     go_wp2_with fail
     refine hids.mono ?_;rintro e w1 ⟨ib,ic,rfl,ho,hb1⟩;have hR:=Row.own ho;have hcap:=z6m ho;have hln:(ds.map TxnD.id).length≤4:=by simpa using hhi'
     clear hids ho;generalize ds.map TxnD.id=L at*
     go_wp2
     go_loopw[6] (fun j wr=>∃k:Nat,k≤L.length∧j=.int .i64 k∧Hid ((L.take k).Nodup)∧Below w1.heap.size w1 wr) (fun j _=>L.length-(intOf j).toNat)
     case atStart=>exact⟨0,Nat.zero_le _,rfl,show List.Nodup _ by simp,Below.refl _ _⟩
     case round=>
      obtain⟨k,hk,rfl,HA,hb⟩:=hrel;by_cases hlt:k<L.length
      ·obtain⟨b,off,rfl,hbs,hc⟩:=(hR.below hb) k hlt;have hTk:(L.take k).length=k:=by simp;omega
       have hT:=(hR.below hb).take6 k;have HY:Hid (L.getD k 0∈L.take k→E=6):=fun hx=>by rw[E3.out,if_neg (z7t hlt hx)]
       have HN:Hid (L.getD k 0∉L.take k→(L.take (k+1)).Nodup):=fun hx=>z6P HA.out hlt hx
       have hfind:=fun w h=>z2I (some ⟨b,off,none⟩) ic (L.take k) (L.getD k 0) w h (by omega)
       rw[hTk]at hfind;clear HA hTk;have hI:L.getD k 0∈L.take k∨L.getD k 0∉L.take k:=Classical.em _;have HI:Hid ((L.getD k 0∈L.take k∧0≤idxI (L.take k) (L.getD k 0))∨(L.getD k 0∉L.take k∧idxI (L.take k) (L.getD k 0)=-1)):=hI.elim (fun h=>Or.inl ⟨h,z7s h⟩) (fun h=>Or.inr ⟨h,z6l h⟩);clear hI;generalize L.getD k 0=z at*;generalize idxI (L.take k) z=q at*;have k0:=z0P hc;clear hc;have hW:Below wr.heap.size wr wr.drew:=(Below.refl _ _).drew;have hne:Nonempty (Lat wr):=⟨⟨wr,Below.refl _ _⟩⟩
       have hkL:(k:Int)≤(ic:Int):=by omega
       go_wp2_with fail
       refine z0i (S:=fun w'=>∃u:Lat wr,w'=u.val) (by kernel_rfl) ?_;refine sgr [(0,2)] 7 (by kernel_rfl) ⟨⟨_,hW⟩,rfl⟩ ?_;simp only[pkE];repeat go_big_quiet_step (fail)
       refine wpQuiet_nil ?_;have hsl:=q0N b off L.length ic k (by omega);refine qta 2 (some 38) (.slice (some ⟨b,off,none⟩) k ic) 6 (by kernel_rfl) (fun u _=>?_) ⟨⟨_,hW⟩,rfl⟩ ?_
       ·show some (((Instr.sliceAt 47 (.slice (some ⟨b,off,none⟩) L.length ic) none (some (.int .i64 (k:Int))) none)>>=fun x=>pure (Next.value x):Sem Next).run Tryz.prog u)=_;rw[Sem.run_bind,hsl u];rfl
       clear hsl;simp only[Act.put,pjE];refine sgr [(3,4)] 2 (by kernel_rfl) ⟨⟨_,hW⟩,rfl⟩ ?_;simp only[pkE];repeat go_big_quiet_step (fail)
       refine wpQuiet_nil ?_;refine cla 7 (some 43) 129 #[.slice (some ⟨b,off,none⟩) k ic,.int .i64 z] 1 (by kernel_rfl) ?_;refine(hfind _ (hT.below hW)).mono ?_;rintro e w2 ⟨rfl,hw2⟩;replace hw2:=hw2.symm;subst hw2;refine⟨_,rfl,⟨⟨_,hW⟩,rfl⟩,?_⟩;simp only[Act.put,pjE];refine sgr [(8,1)] 0 (by kernel_rfl) ⟨⟨_,hW⟩,rfl⟩ ?_;simp only[pkE];repeat go_big_quiet_step (fail)
       refine wpQuiet_nil ?_;refine z0n (by kernel_rfl) ?_;replace hb:=hb.trans (hW.mono hb.size);clear k0 hW hne hfind hT hkL;generalize wr.drew=wd at*;by_cases hq:0≤q
       ·have E5:Hid (E=6):=by
         rcases HI.out with h|h
         ·exact HY.out h.1
         ·omega
        clear HI HY HN E3
        go_wp2
        go_ret;exact⟨by rw[E5.out];rfl,hb1.trans (hb.mono hb1.size)⟩
       ·have R:Hid ((L.take (k+1)).Nodup):=by
         rcases HI.out with h|h
         ·omega
         ·exact HN.out h.1
        clear HI HY HN
        go_wp2
        go_roundw
        case rel=>exact⟨k+1,by omega,by go_num,R,hb⟩
        case measure=>simp[intOf];omega
      ·have hkl:k=L.length:=by omega
       subst hkl;rw[List.take_length]at HA;have E4:Hid (E=0):=by
        have:=E3.out;rw[if_pos HA.out]at this;exact this
       clear HA E3
       go_wp2
       go_ret;exact⟨by rw[E4.out];rfl,hb1.trans (hb.mono hb1.size)⟩
section
open Go.Sort Go.Shelf
def z6Q:Go.Shelf.Ren:=⟨fun|5=>146|8=>161|7=>160|19=>176|20=>177|10=>167|11=>168|12=>169|13=>170|14=>171|15=>172|16=>173|17=>174|18=>175|30=>182|31=>183|32=>184|33=>185|34=>186|35=>187|40=>191|n=>n,fun|23=>47|25=>2|3=>3|32=>197|22=>47|0=>0|44=>214|46=>202|4=>4|36=>207|35=>206|41=>211|5=>5|9=>9|53=>221|57=>225|63=>230|64=>231|n=>n,fun|n=>n⟩
theorem z98:Go.Proofs.SlLaysM.n5 Tryz.prog z6Q:={
 mixed:=by kernel_rfl,
 f5:=⟨Tryz.f146.name,by decide,Tryz.func146.trans (congrArg some (by kernel_rfl))⟩,
 f7:=⟨Tryz.f160.name,by decide,Tryz.func160.trans (congrArg some (by kernel_rfl))⟩,
 f8:=Tryz.func161.trans (congrArg some (by kernel_rfl)),
 f10:=⟨Tryz.f167.name,by decide,Tryz.func167.trans (congrArg some (by kernel_rfl))⟩,
 f11:=⟨Tryz.f168.name,by decide,Tryz.func168.trans (congrArg some (by kernel_rfl))⟩,
 f12:=⟨Tryz.f169.name,by decide,Tryz.func169.trans (congrArg some (by kernel_rfl))⟩,
 f13:=⟨Tryz.f170.name,by decide,Tryz.func170.trans (congrArg some (by kernel_rfl))⟩,
 f14:=⟨Tryz.f171.name,by decide,Tryz.func171.trans (congrArg some (by kernel_rfl))⟩,
 f15:=⟨Tryz.f172.name,by decide,Tryz.func172.trans (congrArg some (by kernel_rfl))⟩,
 f16:=⟨Tryz.f173.name,by decide,Tryz.func173.trans (congrArg some (by kernel_rfl))⟩,
 f17:=⟨Tryz.f174.name,by decide,Tryz.func174.trans (congrArg some (by kernel_rfl))⟩,
 f18:=⟨Tryz.f175.name,by decide,Tryz.func175.trans (congrArg some (by kernel_rfl))⟩,
 f19:=Tryz.func176.trans (congrArg some (by kernel_rfl)),
 f20:=Tryz.func177.trans (congrArg some (by kernel_rfl)),
 f30:=⟨Tryz.f182.name,by decide,Tryz.func182.trans (congrArg some (by kernel_rfl))⟩,
 f31:=Tryz.func183.trans (congrArg some (by kernel_rfl)),
 f32:=Tryz.func184.trans (congrArg some (by kernel_rfl)),
 f33:=⟨Tryz.f185.name,by decide,Tryz.func185.trans (congrArg some (by kernel_rfl))⟩,
 f34:=⟨Tryz.f186.name,by decide,Tryz.func186.trans (congrArg some (by kernel_rfl))⟩,
 f35:=⟨Tryz.f187.name,by decide,Tryz.func187.trans (congrArg some (by kernel_rfl))⟩,
 f40:=⟨Tryz.f191.name,by decide,Tryz.func191.trans (congrArg some (by kernel_rfl))⟩,
 t0:=Tryz.underlying0,
 a0:=Tryz.isAgg0,
 z0:=Tryz.sizeOf0,
 v0:=Tryz.zeroValue0,
 t3:=Tryz.underlying3,
 a3:=Tryz.isAgg3,
 z3:=Tryz.sizeOf3,
 v3:=Tryz.zeroValue3,
 t4:=Tryz.underlying4,
 a4:=Tryz.isAgg4,
 z4:=Tryz.sizeOf4,
 v4:=Tryz.zeroValue4,
 t5:=Tryz.underlying5,
 a5:=Tryz.isAgg5,
 z5:=Tryz.sizeOf5,
 v5:=Tryz.zeroValue5,
 t9:=Tryz.underlying9,
 a9:=Tryz.isAgg9,
 z9:=Tryz.sizeOf9,
 v9:=Tryz.zeroValue9,
 t22:=Tryz.underlying47,
 a22:=Tryz.isAgg47,
 z22:=Tryz.sizeOf47,
 v22:=Tryz.zeroValue47,
 t23:=Tryz.underlying47,
 a23:=Tryz.isAgg47,
 z23:=Tryz.sizeOf47,
 v23:=Tryz.zeroValue47,
 t25:=Tryz.underlying2,
 a25:=Tryz.isAgg2,
 z25:=Tryz.sizeOf2,
 v25:=Tryz.zeroValue2,
 t32:=Tryz.underlying197,
 a32:=Tryz.isAgg197,
 z32:=Tryz.sizeOf197,
 v32:=Tryz.zeroValue197,
 t35:=Tryz.underlying206,
 a35:=Tryz.isAgg206,
 z35:=Tryz.sizeOf206,
 v35:=Tryz.zeroValue206,
 t36:=Tryz.underlying207,
 a36:=Tryz.isAgg207,
 z36:=Tryz.sizeOf207,
 v36:=Tryz.zeroValue207,
 t41:=Tryz.underlying211,
 a41:=Tryz.isAgg211,
 z41:=Tryz.sizeOf211,
 v41:=Tryz.zeroValue211,
 t44:=Tryz.underlying214,
 a44:=Tryz.isAgg214,
 z44:=Tryz.sizeOf214,
 v44:=Tryz.zeroValue214,
 t46:=Tryz.underlying202,
 a46:=Tryz.isAgg202,
 z46:=Tryz.sizeOf202,
 v46:=Tryz.zeroValue202,
 t53:=Tryz.underlying221,
 a53:=Tryz.isAgg221,
 z53:=Tryz.sizeOf221,
 v53:=Tryz.zeroValue221,
 t57:=Tryz.underlying225,
 a57:=Tryz.isAgg225,
 z57:=Tryz.sizeOf225,
 v57:=Tryz.zeroValue225,
 t63:=Tryz.underlying230,
 a63:=Tryz.isAgg230,
 z63:=Tryz.sizeOf230,
 v63:=Tryz.zeroValue230,
 t64:=Tryz.underlying231,
 a64:=Tryz.isAgg231,
 z64:=Tryz.sizeOf231,
 v64:=Tryz.zeroValue231 }
def z6R:Go.Shelf.Ren:=⟨fun|43=>147|n=>n,fun|22=>47|23=>2|3=>3|4=>4|0=>0|n=>n,fun|n=>n⟩
theorem z99:Go.Proofs.SlLaysN.n43 Tryz.prog z6R:={
 mixed:=by kernel_rfl,
 f43:=⟨Tryz.f147.name,by decide,Tryz.func147.trans (congrArg some (by kernel_rfl))⟩,
 t0:=Tryz.underlying0,
 a0:=Tryz.isAgg0,
 z0:=Tryz.sizeOf0,
 v0:=Tryz.zeroValue0,
 t3:=Tryz.underlying3,
 a3:=Tryz.isAgg3,
 z3:=Tryz.sizeOf3,
 v3:=Tryz.zeroValue3,
 t4:=Tryz.underlying4,
 a4:=Tryz.isAgg4,
 z4:=Tryz.sizeOf4,
 v4:=Tryz.zeroValue4,
 t22:=Tryz.underlying47,
 a22:=Tryz.isAgg47,
 z22:=Tryz.sizeOf47,
 v22:=Tryz.zeroValue47,
 t23:=Tryz.underlying2,
 a23:=Tryz.isAgg2,
 z23:=Tryz.sizeOf2,
 v23:=Tryz.zeroValue2,
 i23:=by kernel_rfl }
end
section
open Go.Sort
theorem z3d:∀ (L:List Int),L.Pairwise (· ≤ ·)→(∀j,j+1<L.length→L.getD (j+1) 0≠L.getD j 0)→L.Nodup
 |[],_,_=>List.nodup_nil
 |[a],_,_=>by simp
 |a::b::t,hs,hadj=>by
  rw[List.pairwise_cons]at hs;have hab:a≠b:=fun e=>hadj 0 (by simp) (by simpa using e.symm)
  have ih:=z3d (b::t) hs.2 (fun j hj=>by simpa using hadj (j+1) (by simpa using hj));rw[List.nodup_cons];refine⟨fun hm=>?_,ih⟩;have h1:=hs.1 b (by simp);rcases List.mem_cons.1 hm with h|h
  ·exact hab h
  ·have h2:=(List.pairwise_cons.1 hs.2).1 a h;omega
theorem z9V(L:List Int)(j:Nat):L.toArray[j]! =L.getD j 0:=by
 rw[List.getElem!_toArray];by_cases h:j<L.length
 ·rw[getElem!_pos L j h];simp[List.getD,h]
 ·rw[getElem!_neg L j h];simp[List.getD,List.getElem?_eq_none (show L.length≤j by omega)]
theorem z5O(L:List Int)(hs:L.Pairwise (· ≤ ·)):(L.Nodup→(Lib.compact L).length=L.length)∧(¬L.Nodup→(Lib.compact L).length<L.length):=by
 constructor
 ·intro h;rw[Lib.compact_all];intro j hj;unfold Lib.keeps;rw[decide_eq_true_eq,z9V,z9V];by_cases h0:j=0
  ·exact Or.inl h0
  ·right;intro e;have e1:L.getD j 0=L[j]:=by simp[List.getD,hj]
   have e2:L.getD (j-1) 0=L[j-1]'(by omega):=by simp[List.getD,show j-1<L.length by omega]
   rw[e1,e2]at e;exact List.pairwise_iff_getElem.1 h (j-1) j (by omega) hj (by omega) e.symm
 ·intro h;have hex:∃j,j+1<L.length∧L.getD (j+1) 0=L.getD j 0:=by
   apply Classical.byContradiction;intro hn;exact h (z3d L hs (fun j hj e=>hn ⟨j,hj,e⟩))
  obtain⟨j,hj,e⟩:=hex;unfold Lib.compact Lib.compactUpTo;rw[List.length_map];have:=(List.length_filter_lt_length_iff_exists (p:=Lib.keeps L.toArray) (l:=List.range L.length)).2 ⟨j + 1,List.mem_range.2 hj,by
   unfold Lib.keeps;rw[decide_eq_true_eq,z9V,z9V];rintro(h|h)
   ·omega
   ·exact h (by simpa using e)⟩
  rwa [List.length_range]at this
theorem z7u{w w':World}{base g n cap q:Nat}{zs ys:List Int}{os:Array Obj}(h:w.ownsRow base 2 1 (.slice (some ⟨g,0,none⟩) n cap) n (zs.map (Value.int .i64)))(hl:ys.length=n)
  (hw:w'=grow (putRow (Value.int .i64) (Sort.ahead w q) g 0 ys.toArray) os):w'.ownsRow base 2 1 (.slice (some ⟨g,0,none⟩) n cap) n (ys.map (Value.int .i64))∧Out [g] w w':=by
 rcases h.2 with⟨he,hn⟩|⟨g',cap',cur,he,hb,hh,h1,h2,h3,h4⟩
 ·simp at he
 ·simp only[Value.slice.injEq,Option.some.injEq,Addr.mk.injEq,and_true,true_and]at he;obtain⟨rfl,rfl⟩:=he;have hlt:g<w.heap.size:=(Array.getElem?_eq_some_iff.1 hh).1;have hsz:(putRow (Value.int .i64) (Sort.ahead w q) g 0 ys.toArray).heap.size=w.heap.size:=by simp
  have hblk:∀k,k<w.heap.size→w'.heap[k]?=(putRow (Value.int .i64) (Sort.ahead w q) g 0 ys.toArray).heap[k]?:=fun k hk=>by
   rw[hw];exact Array.getElem?_append_left (by rw[hsz];exact hk)
  have hg:w'.heap[g]?=some (.cells (putCells (Value.int .i64) 0 ys.toArray cur) 2 (0,0)):=by
   rw[hblk g hlt];show(w.heap.modify g _)[g]?=_;rw[Array.getElem?_modify,if_pos rfl,hh];rfl
  have hcs:(putCells (Value.int .i64) 0 ys.toArray cur).size=cur.size:=by simp[putCells]
  refine⟨⟨by simp[hl],Or.inr ⟨g,cap,_,rfl,hb,hg,h1,h2,by rw[hcs];exact h3,?_⟩⟩,?_⟩
  ·apply List.ext_getElem?;intro j;by_cases hj:j<n
   ·rw[List.getElem?_take,if_pos (by omega),Array.getElem?_toList];simp only[putCells,Array.getElem?_mapIdx];rw[Array.getElem?_eq_getElem (by omega),Option.map_some,if_pos ⟨Nat.zero_le _,by rw[List.size_toArray];omega⟩];simp only[Nat.sub_zero];rw[z9V,List.getElem?_map,List.getElem?_eq_getElem (by omega)];simp[List.getD,show j<ys.length by omega]
   ·rw[List.getElem?_eq_none (by simp;omega),List.getElem?_eq_none (by simp;omega)]
  ·refine⟨by rw[hw];rfl,by rw[hw];rfl,by rw[hw];rfl,?_,fun k hk hn=>?_⟩
   ·rw[hw];show w.heap.size≤(_++os).size;rw[Array.size_append,hsz];omega
   ·rw[hblk k hk];show(w.heap.modify g _)[k]?=_;rw[Array.getElem?_modify,if_neg (fun e=>hn (by simp[e]))]
theorem z5m{w:World}{base g n cap:Nat}{zs:List Int}(h:w.ownsRow base 2 1 (.slice (some ⟨g,0,none⟩) n cap) n (zs.map (Value.int .i64))):Holds (Value.int .i64) w g 0 zs.toArray∧g<w.heap.size∧n≤cap:=by
 have hl:zs.length=n:=by have:=h.1;simpa using this
 refine⟨fun j hj=>?_,?_,z6m h⟩
 ·rw[List.size_toArray]at hj;refine⟨?_,h.frozenAt _⟩;rw[Nat.zero_add,h.cellAt j (by omega),z9V];simp[List.getD,hj]
 ·exact(h.lt g rfl).2
theorem z7v(g cap base:Nat)(zs:List Int)(w:World)(h:w.ownsRow base 2 1 (.slice (some ⟨g,0,none⟩) zs.length cap) zs.length (zs.map (Value.int .i64)))(hl:zs.length≤60):
  Calls Tryz.prog 146 #[.slice (some ⟨g,0,none⟩) zs.length cap] w fun e w'=>e=.returned (.tuple #[])∧∃ys:List Int,ys.Perm zs∧ys.Pairwise (· ≤ ·)∧w'.ownsRow base 2 1 (.slice (some ⟨g,0,none⟩) zs.length cap) zs.length (ys.map (Value.int .i64))∧Out [g] w w':=by
 obtain⟨hH,hlt,hc⟩:=z5m h;refine(AnyM.slices_Sort_int z98 g 0 cap zs w hH hlt (by omega)).mono ?_;rintro e w' ⟨rfl,q,os,hw⟩;obtain⟨o,u⟩:=z7u h (by rw[List.length_mergeSort]) hw;refine⟨rfl,_,List.mergeSort_perm _ _,?_,o,u⟩;have:=List.pairwise_mergeSort (le:=fun(x y:Int)=>decide (x≤y)) (fun a b c h1 h2=>by simp only[decide_eq_true_eq]at*;omega) (fun a b=>by simp only[Bool.or_eq_true,decide_eq_true_eq];omega) zs;exact this.imp (fun h=>by simpa using h)
theorem z5n(g cap base:Nat)(zs:List Int)(w:World)(h:w.ownsRow base 2 1 (.slice (some ⟨g,0,none⟩) zs.length cap) zs.length (zs.map (Value.int .i64)))(hl:zs.length≤60):
  Calls Tryz.prog 147 #[.slice (some ⟨g,0,none⟩) zs.length cap] w fun e w'=>e=.returned (.slice (some ⟨g,0,none⟩) (Lib.compact zs).length cap)∧Out [g] w w':=by
 obtain⟨hH,hlt,hc⟩:=z5m h;refine(calls_of_every_depth fun D=>AnySG.slices_Compact_int_in z99 D g 0 cap zs w hH (by omega) hc).mono ?_;rintro e w' ⟨rfl,q,hw⟩;have hle:(Lib.compact zs).length≤zs.length:=by
  unfold Lib.compact Lib.compactUpTo;rw[List.length_map];exact Nat.le_trans (List.length_filter_le _ _) (by simp)
 exact⟨rfl,(z7u (ys:=Lib.compact zs++List.replicate (zs.length-(Lib.compact zs).length) 0) (os:=#[]) h (by simp only[List.length_append,List.length_replicate];omega) (by rw[hw,grow_empty])).2⟩
theorem z4c(v:Value)(ds:List TxnD)(w:World)(h:TxnsAt w v ds)(hl:ds.length+z4a ds≤1048576):
  Calls Tryz.prog 122 #[v] w fun e w'=>e=.returned (.int .i64 (batF ds))∧Below w.heap.size w w':=by
 have hid:=z4D v ds w h hl;obtain⟨a,cap,rfl⟩:=h.shape;by_cases hlo:ds.length<1
 ·rw[z2u (Or.inl hlo)];clear hid;go_enter Tryz.func122,Tryz.ntmps122
  go_wp2
  go_ret;exact⟨rfl,Below.refl _ _⟩
 ·by_cases hhi:4<ds.length
  ·rw[z2u (Or.inr hhi)];clear hid;go_enter Tryz.func122,Tryz.ntmps122
   go_wp2
   go_ret;exact⟨rfl,Below.refl _ _⟩
  ·have HB:Hid (batF ds=if allF ds=0 then(if(ds.map TxnD.id).Nodup then 0 else 6)else allF ds):=z6n (by omega);generalize batF ds=E at HB⊢;have hC:z9m ds=allF ds:=if_neg (by omega);have hlo':1≤ds.length:=by omega
   have hhi':ds.length≤4:=by omega
   clear hlo hhi;rw[hC]at hid;have hR:allF ds=0→idsR ds=ds.map TxnD.id:=fun h0=>by
    unfold idsR;rw[if_pos (by rw[hC];exact h0)]
   have hRl:(idsR ds).length≤4:=Nat.le_trans (z9n ds) hhi';have HID:Hid (allF ds=0→(idsR ds).length=ds.length∧(E=if(idsR ds).Nodup then 0 else 6)):=fun h0=>by
    rw[hR h0];refine⟨by simp,?_⟩;have:=HB.out;rw[if_pos h0]at this;exact this
   have HNE:Hid (allF ds≠0→E=allF ds):=fun h0=>by
    have:=HB.out;rw[if_neg h0]at this;exact this
   clear HB hR hC;generalize idsR ds=L at*;generalize allF ds=C at*;go_enter Tryz.func122,Tryz.ntmps122
   go_wp2_with fail
   refine hid.mono ?_;rintro e w1 ⟨b,c,rfl,ho,hb1⟩;clear hid;have B:=Blk.new w1 192 #[.int .i64 C,.slice b L.length c];have hb2:=hb1.alloc hb1.size (.cells #[.int .i64 C,.slice b L.length c] 192);by_cases h0:C=0
   ·subst h0;obtain⟨hLn,hE⟩:=HID.out rfl;have HE:Hid (E=if L.Nodup then 0 else 6):=hE;have HL:Hid (L.length=ds.length):=hLn;have ho2:=z0j ho ((Below.refl w1.heap.size w1).alloc (Nat.le_refl _) (.cells #[.int .i64 0,.slice b L.length c] 192));obtain⟨g,hg⟩:∃g,b=some ⟨g,0,none⟩:=by
     rcases ho.2 with⟨_,hn⟩|⟨g,_,_,he,_⟩
     ·omega
     ·simp only[Value.slice.injEq]at he;exact⟨g,he.1⟩
    subst hg;have hgl:=ho.lt g rfl;have hst:=z7v g c _ L _ ho2 (by omega);clear HID HNE hE hLn ho ho2
    go_wp2_with fail
    generalize w1.alloc (.cells #[.int .i64 0,.slice (some ⟨g,0,none⟩) L.length c] 192)=W at*;refine hst.mono ?_;rintro e w3 ⟨rfl,ys,hperm,hsort,o3,u3⟩;have hyl:ys.length=L.length:=hperm.length_eq;have HC:Hid (((Lib.compact ys).length<L.length→E=6)∧(¬(Lib.compact ys).length<L.length→E=0)):=by
     obtain⟨c1,c2⟩:=z5O ys hsort;have hnd:=hperm.nodup_iff;refine⟨fun hx=>?_,fun hx=>?_⟩
     ·have hn:¬ys.Nodup:=fun hn=>by have:=c1 hn;omega
      rw[HE.out,if_neg (fun e=>hn (hnd.2 e))]
     ·have hn:ys.Nodup:=Classical.byContradiction (fun hn=>hx (by have:=c2 hn;omega));rw[HE.out,if_pos (hnd.1 hn)]
    have hcp:=z5n g c _ ys w3 (by rw[hyl];exact o3) (by omega);rw[hyl]at hcp;have hne:w1.heap.size≠g:=by omega
    have B3:Blk w3 w1.heap.size 192 #[.int .i64 0,.slice (some ⟨g,0,none⟩) L.length c]:=(u3.block _ B.lt (by simp only[List.mem_singleton];exact hne)).trans B;have hb3:Below w.heap.size w w3:=Out.keep hb2 u3 hb2.size (fun k hk=>by simp only[List.mem_singleton]at hk;omega);have p1:=B3.cell 1 _ rfl;generalize (Lib.compact ys).length=m at*;clear hst HE o3 u3 B hperm hsort hyl hb1 hb2
    go_wp2_with fail
    refine hcp.mono ?_;rintro e w4 ⟨rfl,u4⟩;have hb4:Below w.heap.size w w4:=Out.keep hb3 u4 hb3.size (fun k hk=>by simp only[List.mem_singleton]at hk;omega);clear hcp u4 B3 hb3 p1;have hLd:=HL.out;by_cases hm:m<ds.length
    ·have E2:Hid (E=6):=HC.out.1 (by omega);clear HC
     go_wp2
     go_ret;exact⟨by rw[E2.out];rfl,hb4⟩
    ·have E2:Hid (E=0):=HC.out.2 (by omega);clear HC
     go_wp2
     go_ret;exact⟨by rw[E2.out];rfl,hb4⟩
   ·have E2:Hid (E=C):=HNE.out h0;have h0':(C !=0)=true:=by simpa using h0
    clear HID HNE h0 ho
    go_wp2
    go_ret;exact⟨by rw[E2.out];rfl,hb2⟩
end
structure InstP (w:World) (b o:Nat) (p:InstQ):Prop where
 box:Box4 w b o (.bool p.has) p.vb p.vr p.vd
 rd:instK.rd w p
theorem InstP.below{w w':World}{b o:Nat}{p:InstQ}(h:InstP w b o p)(hb:Below w.heap.size w w'):InstP w' b o p:=⟨h.box.below hb,instK.rd_below h.rd hb⟩
theorem InstP.batch{w:World}{b o:Nat}{p:InstQ}(h:InstP w b o p):txnK.At w p.vb p.batch:=h.rd.1
theorem InstP.rounds{w:World}{b o:Nat}{p:InstQ}(h:InstP w b o p):roundK.At w p.vr p.rounds:=h.rd.2.1
theorem InstP.dec{w:World}{b o:Nat}{p:InstQ}(h:InstP w b o p):intK.At w p.vd p.dec:=h.rd.2.2
theorem z0O(rs:List RoundQ)(r:Nat)(hr:r<rs.length):(rs.map RoundQ.e).getD r rnd0=RoundQ.e rs[r]:=by simp[List.getD,hr]
theorem z6o(rs:List RoundQ)(r:Nat)(hr:r<rs.length):rs[r].rep.length+rs[r].pro.length≤nmL RoundQ.n rs:=z4b RoundQ.n rs r hr
theorem z1F(ds:List RoundE):∀k,(∀j,j<k→vf (ds.getD j rnd0).rep 1=0∧vf (ds.getD j rnd0).pro 2=0)→k<ds.length→(vf (ds.getD k rnd0).rep 1≠0→z0G ds=vf (ds.getD k rnd0).rep 1)∧(vf (ds.getD k rnd0).rep 1=0→vf (ds.getD k rnd0).pro 2≠0→z0G ds=vf (ds.getD k rnd0).pro 2):=by
 induction ds with
 |nil=>intro k _ h;simp at h
 |cons x r ih=>
  intro k h0 hk
  cases k with
  |zero=>
   simp only[List.getD_cons_zero];unfold z0G;exact⟨fun h=>by rw[if_neg h],fun h h2=>by rw[if_pos h,if_neg h2]⟩
  |succ k=>
   have hx:=h0 0 (by omega);simp only[List.getD_cons_zero]at hx;have:=ih k (fun j hj=>by simpa using h0 (j+1) (by omega)) (by simpa using hk);simp only[List.getD_cons_succ];rw[show z0G (x::r)=z0G r by rw[z0G,if_pos hx.1,if_pos hx.2]];exact this
theorem z12(ds:List RoundE)(h:∀j,j<ds.length→vf (ds.getD j rnd0).rep 1=0∧vf (ds.getD j rnd0).pro 2=0):z0G ds=0:=by
 induction ds with
 |nil=>rfl
 |cons x r ih=>
  have hx:=h 0 (by simp);simp only[List.getD_cons_zero]at hx;rw[z0G,if_pos hx.1,if_pos hx.2];exact ih (fun j hj=>by simpa using h (j+1) (by simpa using hj))
theorem z5P(b o:Nat)(p:InstQ)(w:World)(hP:InstP w b o p)(hl:p.n≤1048576):
  Calls Tryz.prog 105 #[.pointer (some ⟨b,o,none⟩)] w fun e w'=>e=.returned (.int .i64 (shpF p.e))∧Below w.heap.size w w':=by
 have hB:Below w.heap.size w w:=Below.refl _ _;obtain⟨has,vb,batch,vr,rounds,vd,dec⟩:=p;dsimp only[InstQ.n]at hl;have HE:Hid (shpF (InstQ.e ⟨has,vb,batch,vr,rounds,vd,dec⟩)=if has=false∧0 < (batch.map TxnQ.e).length then 1 else
  if has=true∧batF (batch.map TxnQ.e)≠0 then batF (batch.map TxnQ.e)else
  if(rounds.map RoundQ.e).length<1∨4<(rounds.map RoundQ.e).length then 2 else
  if z0G (rounds.map RoundQ.e)=0 then vf dec 1 else z0G (rounds.map RoundQ.e)):=by
  exact(rfl:shpF _=_)
 generalize shpF (InstQ.e ⟨has,vb,batch,vr,rounds,vd,dec⟩)=E at HE⊢;have hv:=z3K vb (batch.map TxnQ.e) w (z1T hP.batch) (by rw[List.length_map,z5N];omega);have hsb:∃a c,vb=.slice a batch.length c:=hP.batch.shape;have hsr:∃a c,vr=.slice a rounds.length c:=hP.rounds.shape;have hsd:∃a c,vd=.slice a dec.length c:=hP.dec.shape;obtain⟨ba,bk,rfl⟩:=hsb;obtain⟨va,vk,rfl⟩:=hsr
 cases has with
 |false=>
  by_cases h0:0<batch.length
  ·have E1:Hid (E=1):=by rw[HE.out,if_pos ⟨rfl,by simpa using h0⟩];rfl
   obtain⟨c0,c1,c2,c3⟩:=hP.box;dsimp only at c0 c1 c2 c3;clear HE hv;go_enter Tryz.func105,Tryz.ntmps105
   go_wp2
   go_ret;exact⟨by rw[E1.out];rfl,hB⟩
  ·have HS:Hid (E=if(rounds.map RoundQ.e).length<1∨4<(rounds.map RoundQ.e).length then 2 else if z0G (rounds.map RoundQ.e)=0 then vf dec 1 else z0G (rounds.map RoundQ.e)):=by
    have:=HE.out;rw[if_neg (fun h=>h0 (by simpa using h.2)),if_neg (by simp)]at this;exact this
   clear HE;obtain⟨c0,c1,c2,c3⟩:=hP.box;dsimp only at c0 c1 c2 c3;have h0':¬(0:Int)<batch.length:=by omega
   go_enter Tryz.func105,Tryz.ntmps105;clear c0 c1 c2 c3;by_cases hr1:rounds.length<1
   ·have E2:Hid (E=2):=by rw[HS.out,if_pos (Or.inl (by simpa using hr1))];rfl
    obtain⟨c0,c1,c2,c3⟩:=hP.box;dsimp only at c0 c1 c2 c3;clear HS hv
    go_wp2
    go_ret;exact⟨by rw[E2.out];rfl,hB⟩
   ·by_cases hr4:4<rounds.length
    ·have E2:Hid (E=2):=by rw[HS.out,if_pos (Or.inr (by simpa using hr4))];rfl
     obtain⟨c0,c1,c2,c3⟩:=hP.box;dsimp only at c0 c1 c2 c3;clear HS hv
     go_wp2
     go_ret;exact⟨by rw[E2.out];rfl,hB⟩
    ·have HS2:Hid (E=if z0G (rounds.map RoundQ.e)=0 then vf dec 1 else z0G (rounds.map RoundQ.e)):=by
      have:=HS.out;rw[if_neg (by simp only[List.length_map];omega)]at this;exact this
     have hr1':¬(rounds.length:Int)<1:=by omega
     have hr4':¬(4:Int)<rounds.length:=by omega
     clear HS hr1 hr4;obtain⟨c0,c1,c2,c3⟩:=hP.box;dsimp only at c0 c1 c2 c3
     go_wp2
     clear c0 c1 c2 c3;go_loopw[4] (fun j wr=>∃k:Nat,k≤rounds.length∧j=.int .i64 k∧Hid (∀j,j<k→vf ((rounds.map RoundQ.e).getD j rnd0).rep 1=0∧vf ((rounds.map RoundQ.e).getD j rnd0).pro 2=0)∧Below w.heap.size w wr) (fun j _=>rounds.length-(intOf j).toNat)
     case atStart=>exact⟨0,Nat.zero_le _,rfl,fun j hj=>absurd hj (Nat.not_lt_zero _),Below.refl _ _⟩
     case round=>
      obtain⟨k,hk,rfl,HA,hb⟩:=hrel;have hPr:=hP.below hb;have hBr:=hB.trans (hb.mono hB.size);obtain⟨c0,c1,c2,c3⟩:=hPr.box;dsimp only at c0 c1 c2 c3;by_cases hlt:k<rounds.length
      ·obtain⟨rb,ro,rfl,hbs,hc,hrd⟩:=hPr.rounds.cell (by decide) k hlt;have hc':∀j x,(roundK.cells rounds[k])[j]?=some x→wr.cell? ⟨rb,ro+k*2+j,none⟩=some x:=hc;have r0:=hc' 0 (rounds[k].vr) rfl;have r1:=hc' 1 (rounds[k].vp) rfl;have hnm:=z6o rounds k hlt;have hfst:=z1F (rounds.map RoundQ.e) k HA.out (by simpa using hlt);rw[z0O rounds k hlt]at hfst;dsimp only[RoundQ.e]at hfst;have HF1:Hid (vf rounds[k].rep 1≠0→E=vf rounds[k].rep 1):=fun h=>by rw[HS2.out,hfst.1 h,if_neg h]
       have HF2:Hid (vf rounds[k].rep 1=0→vf rounds[k].pro 2≠0→E=vf rounds[k].pro 2):=fun h h2=>by rw[HS2.out,hfst.2 h h2,if_neg h2]
       have HN:Hid (vf rounds[k].rep 1=0→vf rounds[k].pro 2=0→∀j,j<k+1→vf ((rounds.map RoundQ.e).getD j rnd0).rep 1=0∧vf ((rounds.map RoundQ.e).getD j rnd0).pro 2=0):=by
        intro h1 h2 j hj;by_cases hjk:j=k
        ·subst hjk;rw[z0O rounds j hlt];exact⟨h1,h2⟩
        ·exact HA.out j (by omega)
       clear HA hfst hc hc';generalize rounds[k]=q at*;obtain⟨qv,qr,qw,qp⟩:=q;obtain⟨rA,rP⟩:intK.At wr qv qr∧intK.At wr qw qp:=hrd;dsimp only at*;obtain⟨ra,rk,rfl⟩:=rA.shape;obtain⟨pa,pk,rfl⟩:=rP.shape;have hv1:=z0M ra rk qr 1 wr (z0N rA).2 (by omega);rw[Nat.add_zero]at r0
       go_wp2_with fail
       refine hv1.mono ?_;rintro e w2 ⟨rfl,hb2⟩;have hPr2:=hPr.below hb2;have hBr2:=hBr.trans (hb2.mono hBr.size);have hrb:=World.block_lt_of_cell? wr _ r1;replace r1:=(hb2.cell (p:=⟨rb,ro+k*2+1,none⟩) hrb).trans r1;replace hb:=hb.trans (hb2.mono hb.size);have hv2:=z0M pa pk qp 2 w2 (z0N (rP.below hb2)).2 (by omega);clear hv1 c0 c1 c2 c3 r0 hb2 hPr hBr rA rP;obtain⟨c0,c1,c2,c3⟩:=hPr2.box;dsimp only at c0 c1 c2 c3;by_cases h1:vf qr 1=0
       ·have HF:Hid (vf qp 2≠0→E=vf qp 2):=HF2.out h1;have HM:Hid (vf qp 2=0→_):=HN.out h1;rw[h1];clear HF1 HF2 HN h1
        go_wp2_with fail
        refine hv2.mono ?_;rintro e w3 ⟨rfl,hb3⟩;replace hb:=hb.trans (hb3.mono hb.size);replace hBr2:=hBr2.trans (hb3.mono hBr2.size);clear hv2 c0 c1 c2 c3 r1 hb3 hPr2;by_cases h2:vf qp 2=0
        ·have R:=HM.out h2;have HR:Hid _:=R;rw[h2];clear HF HM R h2
         go_wp2
         go_roundw
         case rel=>exact⟨k+1,by omega,by go_num,HR.out,hb⟩
         case measure=>simp[intOf];omega
        ·have E2:Hid (E=vf qp 2):=HF.out h2;have h2':(vf qp 2 !=0)=true:=by simpa using h2
         clear HF HM h2;generalize vf qp 2=r at*
         go_wp2
         go_ret;exact⟨by rw[E2.out];rfl,hBr2⟩
       ·have E2:Hid (E=vf qr 1):=HF1.out h1;have h1':(vf qr 1 !=0)=true:=by simpa using h1
        clear HF1 HF2 HN h1 hv2;generalize vf qr 1=r at*
        go_wp2
        go_ret;exact⟨by rw[E2.out];rfl,hBr2⟩
      ·have hkl:k=rounds.length:=by omega
       subst hkl;have E2:Hid (E=vf dec 1):=by
        have:=HS2.out;rw[if_pos (z12 _ (by simpa using HA.out))]at this;exact this
       have hdec:intK.At wr vd dec:=hPr.dec;obtain⟨da,dk,rfl⟩:=hdec.shape;have hv1:=z0M da dk dec 1 wr (z0N hdec).2 (by omega);clear HA HS2 hdec
       go_wp2_with fail
       refine hv1.mono ?_;rintro e w2 ⟨rfl,hb2⟩;replace hBr:=hBr.trans (hb2.mono hBr.size);generalize vf dec 1=r at*;clear hv1 c0 c1 c2 c3 hb2 hPr
       go_wp2
       go_ret;exact⟨by rw[E2.out];rfl,hBr⟩
 |true=>
  obtain⟨c0,c1,c2,c3⟩:=hP.box;dsimp only at c0 c1 c2 c3;go_enter Tryz.func105,Tryz.ntmps105
  go_wp2_with fail
  refine hv.mono ?_;rintro e w1 ⟨rfl,hb1⟩;replace hP:=hP.below hb1;replace hB:=hB.trans (hb1.mono hB.size);clear hv hb1 c0 c1 c2 c3;by_cases h1:batF (batch.map TxnQ.e)=0
  ·have HS:Hid (E=if(rounds.map RoundQ.e).length<1∨4<(rounds.map RoundQ.e).length then 2 else if z0G (rounds.map RoundQ.e)=0 then vf dec 1 else z0G (rounds.map RoundQ.e)):=by
    have:=HE.out;rw[if_neg (by simp),if_neg (fun h=>h.2 h1)]at this;exact this
   rw[h1];clear HE h1;have hv:=True.intro;by_cases hr1:rounds.length<1
   ·have E2:Hid (E=2):=by rw[HS.out,if_pos (Or.inl (by simpa using hr1))];rfl
    obtain⟨c0,c1,c2,c3⟩:=hP.box;dsimp only at c0 c1 c2 c3;clear HS hv
    go_wp2
    go_ret;exact⟨by rw[E2.out];rfl,hB⟩
   ·by_cases hr4:4<rounds.length
    ·have E2:Hid (E=2):=by rw[HS.out,if_pos (Or.inr (by simpa using hr4))];rfl
     obtain⟨c0,c1,c2,c3⟩:=hP.box;dsimp only at c0 c1 c2 c3;clear HS hv
     go_wp2
     go_ret;exact⟨by rw[E2.out];rfl,hB⟩
    ·have HS2:Hid (E=if z0G (rounds.map RoundQ.e)=0 then vf dec 1 else z0G (rounds.map RoundQ.e)):=by
      have:=HS.out;rw[if_neg (by simp only[List.length_map];omega)]at this;exact this
     have hr1':¬(rounds.length:Int)<1:=by omega
     have hr4':¬(4:Int)<rounds.length:=by omega
     clear HS hr1 hr4;obtain⟨c0,c1,c2,c3⟩:=hP.box;dsimp only at c0 c1 c2 c3
     go_wp2
     clear c0 c1 c2 c3;go_loopw[4] (fun j wr=>∃k:Nat,k≤rounds.length∧j=.int .i64 k∧Hid (∀j,j<k→vf ((rounds.map RoundQ.e).getD j rnd0).rep 1=0∧vf ((rounds.map RoundQ.e).getD j rnd0).pro 2=0)∧Below w1.heap.size w1 wr) (fun j _=>rounds.length-(intOf j).toNat)
     case atStart=>exact⟨0,Nat.zero_le _,rfl,fun j hj=>absurd hj (Nat.not_lt_zero _),Below.refl _ _⟩
     case round=>
      obtain⟨k,hk,rfl,HA,hb⟩:=hrel;have hPr:=hP.below hb;have hBr:=hB.trans (hb.mono hB.size);obtain⟨c0,c1,c2,c3⟩:=hPr.box;dsimp only at c0 c1 c2 c3;by_cases hlt:k<rounds.length
      ·obtain⟨rb,ro,rfl,hbs,hc,hrd⟩:=hPr.rounds.cell (by decide) k hlt;have hc':∀j x,(roundK.cells rounds[k])[j]?=some x→wr.cell? ⟨rb,ro+k*2+j,none⟩=some x:=hc;have r0:=hc' 0 (rounds[k].vr) rfl;have r1:=hc' 1 (rounds[k].vp) rfl;have hnm:=z6o rounds k hlt;have hfst:=z1F (rounds.map RoundQ.e) k HA.out (by simpa using hlt);rw[z0O rounds k hlt]at hfst;dsimp only[RoundQ.e]at hfst;have HF1:Hid (vf rounds[k].rep 1≠0→E=vf rounds[k].rep 1):=fun h=>by rw[HS2.out,hfst.1 h,if_neg h]
       have HF2:Hid (vf rounds[k].rep 1=0→vf rounds[k].pro 2≠0→E=vf rounds[k].pro 2):=fun h h2=>by rw[HS2.out,hfst.2 h h2,if_neg h2]
       have HN:Hid (vf rounds[k].rep 1=0→vf rounds[k].pro 2=0→∀j,j<k+1→vf ((rounds.map RoundQ.e).getD j rnd0).rep 1=0∧vf ((rounds.map RoundQ.e).getD j rnd0).pro 2=0):=by
        intro h1 h2 j hj;by_cases hjk:j=k
        ·subst hjk;rw[z0O rounds j hlt];exact⟨h1,h2⟩
        ·exact HA.out j (by omega)
       clear HA hfst hc hc';generalize rounds[k]=q at*;obtain⟨qv,qr,qw,qp⟩:=q;obtain⟨rA,rP⟩:intK.At wr qv qr∧intK.At wr qw qp:=hrd;dsimp only at*;obtain⟨ra,rk,rfl⟩:=rA.shape;obtain⟨pa,pk,rfl⟩:=rP.shape;have hv1:=z0M ra rk qr 1 wr (z0N rA).2 (by omega);rw[Nat.add_zero]at r0
       go_wp2_with fail
       refine hv1.mono ?_;rintro e w2 ⟨rfl,hb2⟩;have hPr2:=hPr.below hb2;have hBr2:=hBr.trans (hb2.mono hBr.size);have hrb:=World.block_lt_of_cell? wr _ r1;replace r1:=(hb2.cell (p:=⟨rb,ro+k*2+1,none⟩) hrb).trans r1;replace hb:=hb.trans (hb2.mono hb.size);have hv2:=z0M pa pk qp 2 w2 (z0N (rP.below hb2)).2 (by omega);clear hv1 c0 c1 c2 c3 r0 hb2 hPr hBr rA rP;obtain⟨c0,c1,c2,c3⟩:=hPr2.box;dsimp only at c0 c1 c2 c3;by_cases h1:vf qr 1=0
       ·have HF:Hid (vf qp 2≠0→E=vf qp 2):=HF2.out h1;have HM:Hid (vf qp 2=0→_):=HN.out h1;rw[h1];clear HF1 HF2 HN h1
        go_wp2_with fail
        refine hv2.mono ?_;rintro e w3 ⟨rfl,hb3⟩;replace hb:=hb.trans (hb3.mono hb.size);replace hBr2:=hBr2.trans (hb3.mono hBr2.size);clear hv2 c0 c1 c2 c3 r1 hb3 hPr2;by_cases h2:vf qp 2=0
        ·have R:=HM.out h2;have HR:Hid _:=R;rw[h2];clear HF HM R h2
         go_wp2
         go_roundw
         case rel=>exact⟨k+1,by omega,by go_num,HR.out,hb⟩
         case measure=>simp[intOf];omega
        ·have E2:Hid (E=vf qp 2):=HF.out h2;have h2':(vf qp 2 !=0)=true:=by simpa using h2
         clear HF HM h2;generalize vf qp 2=r at*
         go_wp2
         go_ret;exact⟨by rw[E2.out];rfl,hBr2⟩
       ·have E2:Hid (E=vf qr 1):=HF1.out h1;have h1':(vf qr 1 !=0)=true:=by simpa using h1
        clear HF1 HF2 HN h1 hv2;generalize vf qr 1=r at*
        go_wp2
        go_ret;exact⟨by rw[E2.out];rfl,hBr2⟩
      ·have hkl:k=rounds.length:=by omega
       subst hkl;have E2:Hid (E=vf dec 1):=by
        have:=HS2.out;rw[if_pos (z12 _ (by simpa using HA.out))]at this;exact this
       have hdec:intK.At wr vd dec:=hPr.dec;obtain⟨da,dk,rfl⟩:=hdec.shape;have hv1:=z0M da dk dec 1 wr (z0N hdec).2 (by omega);clear HA HS2 hdec
       go_wp2_with fail
       refine hv1.mono ?_;rintro e w2 ⟨rfl,hb2⟩;replace hBr:=hBr.trans (hb2.mono hBr.size);generalize vf dec 1=r at*;clear hv1 c0 c1 c2 c3 hb2 hPr
       go_wp2
       go_ret;exact⟨by rw[E2.out];rfl,hBr⟩
  ·have E1:Hid (E=batF (batch.map TxnQ.e)):=by
    have:=HE.out;rw[if_neg (by simp),if_pos ⟨by simp,h1⟩]at this;exact this
   have h1':(batF (batch.map TxnQ.e) !=0)=true:=by simpa using h1
   clear HE h1;generalize batF (batch.map TxnQ.e)=r at*
   go_wp2
   go_ret;exact⟨by rw[E1.out];rfl,hB⟩
end Go.Proofs.YtfpponhjhbfbeaaGreatDoor
