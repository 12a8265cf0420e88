/- Texts joined, with what the laws reach alone. -/
import Derived.Test.YtfdkcbafpiojkaaGreatDoorSGAT
set_option linter.unusedVariables false
set_option linter.unusedSimpArgs false
namespace Go.Proofs.YtfdkcbafpiojkaaGreatDoor
open Go.RowKit
open Go.BigFrame
set_option maxRecDepth 100000
theorem undL_snoc (ds:List TxnD) (xs:List ItemD) (t:TxnD):undL xs (ds ++ [t])=undL xs ds ++ [runU (allI xs ds) t.acts]:=by
 unfold undL
 rw [deeds_snoc,List.map_append]
 rfl

set_option maxRecDepth 100000 in
set_option maxHeartbeats 8000000 in
theorem l9Tent_any (ia:Option Addr) (ic:Nat) (xs:List ItemD) (v:Value) (ts:List TxnQ) (w:World) (h:itemK.At w (.slice ia xs.length ic) xs) (hN:Nice ia xs.length ic) (ht:txnK.At w v ts) (hF:∀ p∈ts,(TxnQ.e p).F=0) (hl:ts.length≤40) (h8:xs.length≤8) (g:Good xs) :
  Calls Tryz.prog 112 #[.slice ia xs.length ic,v] w fun e w' => ∃ (ua:Option Addr) (uc:Nat) (na:Option Addr) (nc:Nat) (us:List USQ) (ys:List ItemD),e=.returned (.tuple #[.slice ua us.length uc,.slice na ys.length nc])∧us.map USQ.e=undL xs (ts.map TxnQ.e)∧ys=allI xs (ts.map TxnQ.e)∧ussK.Own w' (.slice ua us.length uc) us∧itemK.Own w' (.slice na ys.length nc) ys∧(ussK.fp (.slice ua us.length uc) us).Nodup∧(∀ k∈ussK.fp (.slice ua us.length uc) us,w.heap.size≤k∧k ∉ blk (.slice na ys.length nc))∧(∀ k∈blk (.slice na ys.length nc),w.heap.size≤k)∧Below w.heap.size w w' := by
 obtain ⟨a,cap,rfl⟩:=ht.shape
 obtain ⟨i0,hi,hz0,hz1,hz2⟩:=info_parts infoItem
 obtain ⟨j0,hj,hy0,hy1,hy2⟩:=info_parts infoUndos9
 have hbA:Below w.heap.size w ((w.alloc (.cells #[] 118)).alloc (.cells #[] 134)):=by go_grown
 have oU:=World.ownsRow_lit (e:=118) (size:=1) w #[] 0 (Nat.le_refl _) (by decide) rfl
 have hbU:Below (w.alloc (.cells #[] 118)).heap.size (w.alloc (.cells #[] 118)) ((w.alloc (.cells #[] 118)).alloc (.cells #[] 134)):=by go_grown
 have oU2:=own_below oU hbU
 have oI:=World.ownsRow_lit (e:=134) (size:=2) (w.alloc (.cells #[] 118)) #[] 0 (Nat.le_refl _) (by decide) rfl
 simp only [World.size_alloc] at oI
 obtain ⟨_,_,e1,l1,_⟩:=h.below hbA
 simp only [Value.slice.injEq,true_and] at e1
 obtain ⟨rfl,rfl⟩:=e1
 have x1:([]:List ItemD).length + xs.length≤maxLen:=by unfold maxLen;rw [List.length_nil];omega
 have x2:(([]:List ItemD).length + xs.length) * 16≤140737488355328:=by rw [List.length_nil];omega
 have hsz:w.heap.size + 1≤((w.alloc (.cells #[] 118)).alloc (.cells #[] 134)).heap.size:=by simp only [World.size_alloc];omega
 have hli:(ts.length:Int)≤40:=by omega
 have h8i:(xs.length:Int)≤8:=by omega
 go_enter Tryz.func112,Tryz.ntmps112
 go_wp2_with (at_builtin;refine wpList_app_k (K:=itemK) _ rfl _ _ 29 rfl i0 (.agg #[.int .i64 0,.int .i64 0]) 16 Tryz.underlying29 hi hz0 hz1 hz2 rfl (by decide) (w.heap.size + 1) _ [] rfl oI _ xs _ rfl l1 (items_oneCell xs) hN x1 x2 hsz ?_)
 intro v' w2 hown hgrow
 try simp only [List.nil_append] at hown
 have hb2:Below w.heap.size w w2:=hbA.grown hgrow (by omega) (fun k hk=>by have:=(oI.lt k hk).1;omega)
 have oU3:=oU2.kept hgrow (Or.inr (by simp [Value.ownBlock]))
 obtain ⟨a2,c2,rfl⟩:=own_shape hown
 obtain ⟨o2,k2⟩:=own_zero hown
 obtain ⟨u2,m2⟩:=own_zero oU3
 clear hgrow oI l1 hown oU oU2 oU3 hbA hbU x1 x2 hsz
 have hO0:ussK.Own w2 (.slice (some ⟨w.heap.size,0,none⟩) 0 0) ([]:List USQ):=⟨u2,fun p hp=>by simp at hp⟩
 have hI0:itemK.Own w2 (.slice a2 xs.length c2) xs:=⟨o2,fun _ _=>trivial⟩
 have hF0:ussK.fp (.slice (some ⟨w.heap.size,0,none⟩) 0 0) ([]:List USQ)=[w.heap.size]:=by simp [Kind.fp,blk,Value.ownBlock]
 have HN0:Hid ((ussK.fp (.slice (some ⟨w.heap.size,0,none⟩) 0 0) ([]:List USQ)).Nodup∧(∀ k∈ussK.fp (.slice (some ⟨w.heap.size,0,none⟩) 0 0) ([]:List USQ),w.heap.size≤k∧k ∉ blk (.slice a2 xs.length c2))∧∀ k∈blk (.slice a2 xs.length c2),w.heap.size≤k):=by
  rw [hF0]
  refine ⟨by simp,fun k hk=>?_,fun k hk=>by have:=k2 k hk;omega⟩
  simp only [List.mem_singleton] at hk
  subst hk
  exact ⟨Nat.le_refl _,fun e=>by have:=k2 _ e;omega⟩
 have HD0:Hid (([]:List USQ).map USQ.e=undL xs ((ts.map TxnQ.e).take 0)∧xs=allI xs ((ts.map TxnQ.e).take 0)∧xs.length≤8∧Good xs):=⟨rfl,rfl,h8,g⟩
 clear o2 k2 u2 m2 hF0 h8 g
 go_wp2
 go_loopw [6,7,8] (fun vu vn j wr=>∃ (k:Nat) (us:List USQ) (ys:List ItemD),k≤ts.length∧j=.int .i64 k∧ussK.Own wr vu us∧itemK.Own wr vn ys∧Hid (us.map USQ.e=undL xs ((ts.map TxnQ.e).take k)∧ys=allI xs ((ts.map TxnQ.e).take k)∧ys.length≤8∧Good ys)∧Hid ((ussK.fp vu us).Nodup∧(∀ x∈ussK.fp vu us,w.heap.size≤x∧x ∉ blk vn)∧∀ x∈blk vn,w.heap.size≤x)∧Below w.heap.size w wr) (fun _ _ j _=>ts.length - (intOf j).toNat)
 case atStart=>exact ⟨0,[],xs,Nat.zero_le _,rfl,hO0,hI0,HD0,HN0,hb2⟩
 case round=>
  clear hO0 hI0 HD0 HN0 hb2
  obtain ⟨k,us,ys,hk,rfl,hO,hI,HD,HN,hb⟩:=hrel
  obtain ⟨sa,sc,rfl⟩:=hO.shape
  obtain ⟨ya,yc,rfl⟩:=hI.shape
  have HQL:Hid (us.length≤40):=by
   have:=congrArg List.length HD.out.1
   rw [List.length_map,undL,List.length_map,deeds_len,List.length_take] at this
   show us.length≤40
   omega
  by_cases hlt:k < ts.length
  ·obtain ⟨b,off,rfl,hbs,hcm,hrd⟩:=(ht.below hb).cell (by decide) k hlt
   have hc' : ∀ j x,(txnK.cells ts[k])[j]? = some x→wr.cell? ⟨b,off + k * 4 + j,none⟩=some x:=hcm
   have c0:=hc' 0 (.int .i64 ts[k].i) rfl
   have c1:=hc' 1 (.int .i64 ts[k].s) rfl
   have c2' := hc' 2 (.int .i64 ts[k].q) rfl
   have c3:=hc' 3 (ts[k].va) rfl
   rw [Nat.add_zero] at c0
   have hF1:=hF ts[k] (List.getElem_mem hlt)
   have HTK:=take_e ts k hlt
   have hlti:(k:Int) < (ts.length:Int):=by omega
   clear hcm hc'
   generalize ts[k]=p at *
   obtain ⟨i,s,q,va,acts⟩:=p
   replace hrd:actK.At wr va acts:=hrd
   obtain ⟨ta,tc,rfl⟩:=hrd.shape
   dsimp only [TxnQ.e] at c0 c1 c2' c3 hF1 HTK
   have hB4:Box4 wr b (off + k * 4) (.int .i64 i) (.int .i64 s) (.int .i64 q) (.slice ta acts.length tc):=⟨c0,c1,c2',c3⟩
   have hdo:=l4Do_any ya yc ys b (off + k * 4) i s q ta tc acts wr (itemK_at hI.at).2 (hI.niceV _ _ _ rfl) hB4 (actK_at hrd).2 HD.out.2.2.1 HD.out.2.2.2 hF1
   have HNX:Hid (∀ p' : USQ,p'.us=runU ys acts→(us ++ [p']).map USQ.e=undL xs ((ts.map TxnQ.e).take (k + 1))∧nextI ys ⟨i,s,q,acts⟩=allI xs ((ts.map TxnQ.e).take (k + 1))∧(nextI ys ⟨i,s,q,acts⟩).length≤8∧Good (nextI ys ⟨i,s,q,acts⟩)):=fun p' hp' => by
    obtain ⟨d1,d2,d3,d4⟩:=HD.out
    have g:=nextI_good d3 d4 hF1
    rw [HTK,undL_snoc,allI_snoc,← d2,List.map_append,d1]
    exact ⟨by rw [← hp'];rfl,rfl,g.1,g.2⟩
   have hnx:=step9 (xs:=ys) (t:=⟨i,s,q,acts⟩)
   dsimp only at hnx
   clear c0 c1 c2' c3 hB4 hrd HTK
   go_wp2_with fail
   refine hdo.mono ?_
   rintro e w5 ⟨ub,uc,jb,jc,rfl,hU,hb5⟩
   clear hdo
   obtain ⟨ou,lu⟩:=ownS_kind hU.o1
   obtain ⟨oi,li⟩:=ownS_kind hU.o2
   have hap:=hU.ap
   have OIL:∀ x∈blk (.slice jb (runR ys acts).length jc),x < w5.heap.size:=own_blk oi
   clear hU
   have HLT:=hO.lt
   have HIT:∀ x∈blk (.slice ya ys.length yc),x < wr.heap.size:=own_blk hI.1
   have hsr:=hb.size
   replace hO:=hO.below hb5
   replace hI:=hI.below hb5
   replace hb:=hb.trans (hb5.mono hb.size)
   have hs5:=hb5.size
   have hbR:Below w5.heap.size w5 (w5.alloc (.cells #[.int .i64 (runA ys acts).1,.int .i64 (runV ys acts),.slice ub (runU ys acts).length uc,.slice jb (runR ys acts).length jc] 179)):=by go_grown
   have BR:=Blk.new w5 179 #[.int .i64 (runA ys acts).1,.int .i64 (runV ys acts),.slice ub (runU ys acts).length uc,.slice jb (runR ys acts).length jc]
   have r2:=BR.cell 2 _ rfl
   have hbS:Below (w5.alloc (.cells #[.int .i64 (runA ys acts).1,.int .i64 (runV ys acts),.slice ub (runU ys acts).length uc,.slice jb (runR ys acts).length jc] 179)).heap.size (w5.alloc (.cells #[.int .i64 (runA ys acts).1,.int .i64 (runV ys acts),.slice ub (runU ys acts).length uc,.slice jb (runR ys acts).length jc] 179)) ((w5.alloc (.cells #[.int .i64 (runA ys acts).1,.int .i64 (runV ys acts),.slice ub (runU ys acts).length uc,.slice jb (runR ys acts).length jc] 179)).alloc (.cells #[.slice ub (runU ys acts).length uc] 118)):=by go_grown
   have BR2:=BR.below hbS
   have hBRl:=BR.lt
   have hOA:=(hO.below hbR).below hbS
   have hIA:=(hI.below hbR).below hbS
   have ou5:undoK.Own w5 (.slice ub (runU ys acts).length uc) (runU ys acts):=⟨ou,fun _ _=>trivial⟩
   have oi5:itemK.Own w5 (.slice jb (runR ys acts).length jc) (runR ys acts):=⟨oi,fun _ _=>trivial⟩
   have hPA:ussK.own _ (⟨.slice ub (runU ys acts).length uc,runU ys acts⟩:USQ):=(Kind.Own.below (Kind.Own.below ou5 hbR) hbS)
   have oiA:=Kind.Own.below (Kind.Own.below oi5 hbR) hbS
   clear ou5 oi5
   have hbB:=(hb.trans (hbR.mono (by omega))).trans (hbS.mono (by have:=hbR.size;omega))
   have hsA:w5.heap.size + 2≤((w5.alloc (.cells #[.int .i64 (runA ys acts).1,.int .i64 (runV ys acts),.slice ub (runU ys acts).length uc,.slice jb (runR ys acts).length jc] 179)).alloc (.cells #[.slice ub (runU ys acts).length uc] 118)).heap.size:=by simp only [World.size_alloc];omega
   have hrow0:=hOA.1
   clear hO hI ou oi hbS hb
   go_wp2_with (at_builtin;refine wpList_append_own_at _ rfl _ _ 30 rfl 0 118 j0 (.slice none 0 0) 1 24 Tryz.underlying30 hj hy0 hy1 hy2 rfl (by decide) _ us.length (ussK.row us) rfl hrow0 ⟨w5.heap.size + 1,0,none⟩ 1 1 [.slice ub (runU ys acts).length uc] rfl rfl ?c1 ?c2 ?c3 ?c4 ?c5 ?_)
   all_goals try (case c1=>intro j u hj;match j,hj with | 0,hj=>simp at hj;subst hj;simp [Addr.add])
   all_goals try (case c2=>intro u hu;simp at hu;subst hu;rfl)
   all_goals try (case c3=>have:=HQL.out;unfold maxLen;omega)
   all_goals try (case c4=>have:=HQL.out;omega)
   all_goals try (case c5=>first | omega | simp)
   intro v' w6 hown hgrow hnil hat
   clear hnil hrow0 r2
   rw [show w5.heap.size + 1 + 1=((w5.alloc (.cells #[.int .i64 (runA ys acts).1,.int .i64 (runV ys acts),.slice ub (runU ys acts).length uc,.slice jb (runR ys acts).length jc] 179)).alloc (.cells #[.slice ub (runU ys acts).length uc] 118)).heap.size from by simp only [World.size_alloc]] at hat
   generalize hwA:(w5.alloc (.cells #[.int .i64 (runA ys acts).1,.int .i64 (runV ys acts),.slice ub (runU ys acts).length uc,.slice jb (runR ys acts).length jc] 179)).alloc (.cells #[.slice ub (runU ys acts).length uc] 118)=WA at *
   clear hwA
   have hfoot:∀ x∈ussK.foot (⟨.slice ub (runU ys acts).length uc,runU ys acts⟩:USQ),wr.heap.size≤x:=fun x hx=>by
    have hx' : x∈undoK.fp (.slice ub (runU ys acts).length uc) (runU ys acts):=hx
    rw [undoK_fp] at hx'
    exact lu x hx'
   obtain ⟨hO5,hn5,hlo5,hou⟩:=hOA.snoc HN.out.1 (fun x hx=>(HN.out.2.1 x hx).1) hPA (by show (undoK.fp _ _).Nodup;rw [undoK_fp];exact blk_nodup _) (fun x hx hx' => by have:=HLT x hx';have:=hfoot x hx;omega) (fun x hx=>by have:=hfoot x hx;omega) hbB.size hown hgrow hat
   have hb6:Below w.heap.size w w6:=Out.keep hbB hou hbB.size (fun x hx=>(HN.out.2.1 x (by simp only [Kind.fp,List.mem_append];exact Or.inl hx)).1)
   obtain ⟨a6,c6,rfl⟩:=hO5.shape
   have hblk:∀ x∈ussK.fp (.slice a6 (us ++ [(⟨.slice ub (runU ys acts).length uc,runU ys acts⟩:USQ)]).length c6) (us ++ [(⟨.slice ub (runU ys acts).length uc,runU ys acts⟩:USQ)]),x∈ussK.fp (.slice sa us.length sc) us∨x∈blk (.slice ub (runU ys acts).length uc)∨w5.heap.size + 1 < x:=fun x hx=>by
    simp only [Kind.fp,List.mem_append,List.flatMap_append,List.flatMap_cons,List.flatMap_nil,List.append_nil] at hx
    rcases hx with hx | hx | hx
    ·rcases blk_new (B0:=0) (H:=WA.heap.size) (v:=.slice sa us.length sc) (by rcases hat with h | h;exact Or.inl h;exact Or.inr ⟨_,h,Nat.le_refl _⟩) hx with e | e
     ·exact Or.inl (by simp only [Kind.fp,List.mem_append];exact Or.inl e)
     ·exact Or.inr (Or.inr (by omega))
    ·exact Or.inl (by simp only [Kind.fp,List.mem_append];exact Or.inr hx)
    ·refine Or.inr (Or.inl ?_)
     have hx' : x∈undoK.fp (.slice ub (runU ys acts).length uc) (runU ys acts):=hx
     rwa [undoK_fp] at hx'
   have hoi6:=oiA.out hou (fun x hx e=>by
    rw [itemK_fp] at hx
    have:=li x hx
    have:=HLT x (by simp only [Kind.fp,List.mem_append];exact Or.inl e)
    omega)
   have hI6:=hIA.out hou (fun x hx e=>by
    rw [itemK_fp] at hx
    exact (HN.out.2.1 x (by simp only [Kind.fp,List.mem_append];exact Or.inl e)).2 hx)
   have BR6:=BR2.outs8 hou (fun e=>by have:=HLT _ (show w5.heap.size∈ussK.fp (.slice sa us.length sc) us by simp only [Kind.fp,List.mem_append];exact Or.inl e);omega)
   have n0:=BR6.cell 0 _ rfl
   have n3:=BR6.cell 3 _ rfl
   have HE6:=HNX.out ⟨.slice ub (runU ys acts).length uc,runU ys acts⟩ rfl
   have oil:∀ x∈blk (.slice jb (runR ys acts).length jc),x < w5.heap.size:=fun x hx=>OIL x hx
   have hnw:∀ x∈blk (.slice jb (runR ys acts).length jc),x ∉ ussK.fp (.slice a6 (us ++ [(⟨.slice ub (runU ys acts).length uc,runU ys acts⟩:USQ)]).length c6) (us ++ [(⟨.slice ub (runU ys acts).length uc,runU ys acts⟩:USQ)]):=fun x hx hm=>by
    rcases hblk x hm with e | e | e
    ·have:=HLT x e;have:=li x hx;omega
    ·rcases hap with h0 | h0
     ·unfold blk at e;rw [h0] at e;simp at e
     ·unfold blk at e hx
      apply h0
      cases hu:(Value.slice ub (runU ys acts).length uc).ownBlock with
      | none=>rw [hu] at e;simp at e
      | some y=>
       cases hv:(Value.slice jb (runR ys acts).length jc).ownBlock with
       | none=>rw [hv] at hx;simp at hx
       | some z=>
        rw [hu] at e
        rw [hv] at hx
        simp only [Option.toList,List.mem_singleton] at e hx
        rw [← e,← hx]
    ·have:=oil x hx;omega
   have hold:∀ x∈blk (.slice ya ys.length yc),x ∉ ussK.fp (.slice a6 (us ++ [(⟨.slice ub (runU ys acts).length uc,runU ys acts⟩:USQ)]).length c6) (us ++ [(⟨.slice ub (runU ys acts).length uc,runU ys acts⟩:USQ)]):=fun x hx hm=>by
    have hxl:=HIT x hx
    rcases hblk x hm with e | e | e
    ·exact (HN.out.2.1 x e).2 hx
    ·have:=lu x e;omega
    ·omega
   have hlen:(us ++ [(⟨.slice ub (runU ys acts).length uc,runU ys acts⟩:USQ)]).length=us.length + 1:=by simp
   rw [hlen] at hO5 hn5 hlo5 hnw hold ⊢
   by_cases hc:(runA ys acts).1=0
   ·rw [if_pos hc] at hnx
    have HD6:Hid ((us ++ [(⟨.slice ub (runU ys acts).length uc,runU ys acts⟩:USQ)]).map USQ.e=undL xs ((ts.map TxnQ.e).take (k + 1))∧runR ys acts=allI xs ((ts.map TxnQ.e).take (k + 1))∧(runR ys acts).length≤8∧Good (runR ys acts)):=by rw [← hnx];exact HE6
    have HN6:Hid ((ussK.fp (.slice a6 (us.length + 1) c6) (us ++ [(⟨.slice ub (runU ys acts).length uc,runU ys acts⟩:USQ)])).Nodup∧(∀ x∈ussK.fp (.slice a6 (us.length + 1) c6) (us ++ [(⟨.slice ub (runU ys acts).length uc,runU ys acts⟩:USQ)]),w.heap.size≤x∧x ∉ blk (.slice jb (runR ys acts).length jc))∧∀ x∈blk (.slice jb (runR ys acts).length jc),w.heap.size≤x):=⟨hn5,fun x hx=>⟨hlo5 x hx,fun e=>hnw x e hx⟩,fun x hx=>by have:=li x hx;omega⟩
    have HR:Hid (_∧_∧_):=⟨hO5,hoi6,hb6⟩
    have hcb:((runA ys acts).1 == 0)=true:=by simpa using hc
    clear hO5 hoi6 hb6 hI6 hIA oiA hPA hOA hown hgrow hat hou HN HD HNX HE6 hnw hold hblk hfoot BR BR2 BR6 hbB hb5 HLT HIT li lu hn5 hlo5 oil hap hnx hbR
    go_wp2
    go_roundw
    case rel=>exact ⟨k + 1,_,_,by omega,by go_num,HR.out.1,HR.out.2.1,HD6,HN6,HR.out.2.2⟩
    case measure=>simp [intOf];omega
   ·rw [if_neg hc] at hnx
    have HD6:Hid ((us ++ [(⟨.slice ub (runU ys acts).length uc,runU ys acts⟩:USQ)]).map USQ.e=undL xs ((ts.map TxnQ.e).take (k + 1))∧ys=allI xs ((ts.map TxnQ.e).take (k + 1))∧ys.length≤8∧Good ys):=by
     have:=HE6
     rw [hnx] at this
     exact this
    have HN6:Hid ((ussK.fp (.slice a6 (us.length + 1) c6) (us ++ [(⟨.slice ub (runU ys acts).length uc,runU ys acts⟩:USQ)])).Nodup∧(∀ x∈ussK.fp (.slice a6 (us.length + 1) c6) (us ++ [(⟨.slice ub (runU ys acts).length uc,runU ys acts⟩:USQ)]),w.heap.size≤x∧x ∉ blk (.slice ya ys.length yc))∧∀ x∈blk (.slice ya ys.length yc),w.heap.size≤x):=⟨hn5,fun x hx=>⟨hlo5 x hx,fun e=>hold x e hx⟩,HN.out.2.2⟩
    have HR:Hid (_∧_∧_):=⟨hO5,hI6,hb6⟩
    have hcb:((runA ys acts).1 == 0)=false:=by simpa using hc
    clear hO5 hoi6 hb6 hI6 hIA oiA hPA hOA hown hgrow hat hou HN HD HNX HE6 hnw hold hblk hfoot BR BR2 BR6 hbB hb5 HLT HIT li lu hn5 hlo5 oil hap hnx hbR
    go_wp2
    go_roundw
    case rel=>exact ⟨k + 1,_,_,by omega,by go_num,HR.out.1,HR.out.2.1,HD6,HN6,HR.out.2.2⟩
    case measure=>simp [intOf];omega
  ·have hkl:k=ts.length:=by omega
   subst hkl
   have hlti:¬ ((ts.length:Int) < (ts.length:Int)):=by omega
   obtain ⟨d1,d2,_,_⟩:=HD.out
   rw [List.take_of_length_le (by simp)] at d1 d2
   have HP:Hid (_∧_):=⟨d1,d2⟩
   clear HD d1 d2
   go_wp2
   exact bodyPost_ret (v:=.tuple #[.slice sa us.length sc,.slice ya ys.length yc]) (by simp [results,Tryz.results112,go_sem]) rfl ⟨sa,sc,ya,yc,us,ys,rfl,HP.out.1,HP.out.2,hO,hI,HN.out.1,HN.out.2.1,HN.out.2.2,hb⟩

end Go.Proofs.YtfdkcbafpiojkaaGreatDoor
namespace Go.Proofs.YtfdkcbafpiojkaaGreatDoor
open Go.RowKit Go.Maps
open Go.BigFrame
set_option maxRecDepth 100000
theorem apartG {s t:Value} (h:∀ g,s.ownBlock=some g→t.ownBlock=some g→False):s.ownBlock=none∨s.ownBlock≠t.ownBlock:=by
 cases e:s.ownBlock with
 | none=>exact Or.inl rfl
 | some g=>right;intro k;exact h g e k.symm

theorem Blk.otherG {w:World} {b g j:Nat} {t:TypeId} {cs:Array Value} {u:Value} (h:Blk w b t cs) (hne:b≠g):Blk (w.setCell ⟨g,j,none⟩ u) b t cs:=by
 unfold Blk at h ⊢
 rw [Below.heap_setCell _ _ _ _ (by dsimp only;omega)]
 exact h

end Go.Proofs.YtfdkcbafpiojkaaGreatDoor
