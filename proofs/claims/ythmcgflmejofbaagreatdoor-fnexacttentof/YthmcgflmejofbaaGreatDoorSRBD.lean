/- Texts joined, with what the law reaches alone. -/
import Derived.Test.YthmcgflmejofbaaGreatDoorSRAX
import Derived.Test.YthmcgflmejofbaaGreatDoorSRAZ
import Derived.Test.YthmcgflmejofbaaGreatDoorSRBC
import Derived.Test.YthmcgflmejofbaaGreatDoorSRAJ
import Derived.Laws.AppendOwnNone
set_option linter.unusedVariables false
set_option linter.unusedSimpArgs false
namespace Go.Proofs.YthmcgflmejofbaaGreatDoor
open Go.RowKit
open Go.BigFrame
set_option maxRecDepth 100000
theorem allF_of:∀ {ds:List TxnD},(∀ t∈ds,t.F=0)→allF ds=0
 | [],_=>rfl
 | d :: r,h=>by
  rw [allF,if_pos (h d (by simp))]
  exact allF_of (fun t ht=>h t (List.mem_cons_of_mem _ ht))

theorem ids_of {ds:List TxnD} (h:∀ t∈ds,t.F=0) (hl:ds.length≤60):idsC ds=0:=by
 unfold idsC
 rw [if_neg (by omega)]
 exact allF_of h

theorem fieldA3 (c:Int) (a1 a2 a3:Option Addr) (n1 k1 n2 k2 n3 k3:Nat) (w:World):(Instr.field 51 (.agg #[.int .i64 c,.slice a1 n1 k1,.slice a2 n2 k2,.slice a3 n3 k3]) 3).run Tryz.prog w=.ok (.slice a3 n3 k3) w:=by kernel_rfl

set_option maxRecDepth 100000 in
set_option maxHeartbeats 16000000 in
theorem l9Make_any (v1 v2:Value) (ps qs:List TxnQ) (w:World) (h1:txnK.At w v1 ps) (h2:txnK.At w v2 qs) (hF1:∀ p∈ps,(TxnQ.e p).F=0) (hF2:∀ p∈qs,(TxnQ.e p).F=0) (hl1:ps.length≤40) (hl2:qs.length≤40) :
  Calls Tryz.prog 66 #[v1,v2] w fun e w' => ∃ p:RepQ,e=.returned (.agg #[p.vd,p.vb,p.vt,p.vu,p.vn])∧p.e=mkR (ps.map TxnQ.e) (qs.map TxnQ.e)∧repK.own w' p∧(repK.foot p).Nodup∧(∀ k∈repK.foot p,w.heap.size≤k)∧Below w.heap.size w w' := by
 have hFD:∀ t∈ps.map TxnQ.e,t.F=0:=fun t ht=>by obtain ⟨p,hp,rfl⟩:=List.mem_map.1 ht;exact hF1 p hp
 have hFE:∀ t∈qs.map TxnQ.e,t.F=0:=fun t ht=>by obtain ⟨p,hp,rfl⟩:=List.mem_map.1 ht;exact hF2 p hp
 have hne:∀ (l:List TxnQ),(∀ p∈l,(TxnQ.e p).F=0)→∀ p∈l,0 < p.acts.length:=fun l hl p hp=>by
  have:=(acts_of_F (show txnF p.i p.s p.q p.acts=0 from hl p hp)).1
  omega
 have m1:=few_n hFD
 have m2:=few_n hFE
 have gD:=allI_good (xs:=[]) (by simp) nil_good hFD
 have hids:=ids_of hFD (by rw [List.length_map];omega)
 obtain ⟨z1,z2,z3,z4⟩:=ea_ok (xs:=[]) nil_items hids
 obtain ⟨a,cap,rfl⟩:=h1.shape
 obtain ⟨a',cap',rfl⟩:=h2.shape
 have hb0:Below w.heap.size w (w.alloc (.cells #[.slice none 0 0,.slice none 0 0,.slice none 0 0,.slice none 0 0,.slice none 0 0] 28)):=by go_grown
 have Bv:=Blk.new w 28 #[.slice none 0 0,.slice none 0 0,.slice none 0 0,.slice none 0 0,.slice none 0 0]
 have hs0:w.heap.size + 1≤(w.alloc (.cells #[.slice none 0 0,.slice none 0 0,.slice none 0 0,.slice none 0 0,.slice none 0 0] 28)).heap.size:=by simp only [World.size_alloc];omega
 have hc1:=fun w h=>l2CopyAll_any (.slice a ps.length cap) ps w h (hne ps hF1) (by omega)
 have hc2:=fun w h=>l2CopyAll_any (.slice a' qs.length cap') qs w h (hne qs hF2) (by omega)
 have hc3:=fun w h=>l3All_any none 0 [] (.slice a ps.length cap) (ps.map TxnQ.e) w (Or.inl rfl) (Or.inr ⟨rfl,rfl,rfl⟩) (txnsAt_of' h) nil_items hids
 rw [z1,z2,z3,z4] at hc3
 have hR:=fun (w' : World) (hb:Below w.heap.size w w')=>And.intro (h1.below hb) (h2.below hb)
 clear z1 z2 z3 z4 hids m1 m2 hne h1 h2 hFE
 simp only [List.length_nil] at hc3
 go_enter Tryz.func66,Tryz.ntmps66
 go_wp2_with fail
 have hr0:=hR _ hb0
 generalize w.alloc (.cells #[.slice none 0 0,.slice none 0 0,.slice none 0 0,.slice none 0 0,.slice none 0 0] 28)=W0 at *
 generalize hH:w.heap.size=H at *
 refine (hc1 W0 hr0.1).mono ?_
 rintro e w1 ⟨v',q1,rfl,e1,o1,n1,g1,hb⟩
 obtain ⟨a1,k1,rfl⟩:=o1.shape
 have i1:=o1.lt
 have s1:=hb.size
 replace Bv:=Bv.below hb
 replace hb0:=hb0.trans (hb.mono (by omega))
 have hr1:=hR _ hb0
 clear hb hc1
 go_wp2_with fail
 refine (hc2 w1 hr1.2).mono ?_
 rintro e w2 ⟨v',q3,rfl,e3,o3,n3,g3,hb⟩
 obtain ⟨a2,k2,rfl⟩:=o3.shape
 have i3:=o3.lt
 have s2:=hb.size
 replace Bv:=Bv.below hb
 replace o1:=o1.below hb
 replace hb0:=hb0.trans (hb.mono (by omega))
 have hr2:=hR _ hb0
 clear hb hc2
 go_wp2_with fail
 refine (hc3 w2 hr2.1).mono ?_
 rintro e w3 ⟨b1,c1,b2,c2,b3,c3,rfl,hA,hb⟩
 obtain ⟨oB,gB⟩:=ownS_kind hA.o3
 have iB:=own_blk oB
 have s3:=hb.size
 replace Bv:=Bv.below hb
 replace o1:=o1.below hb
 replace o3:=o3.below hb
 replace hb0:=hb0.trans (hb.mono (by omega))
 have hr3:=hR _ hb0
 clear hb hc3 hA
 have hf3:=fieldA3 0 b1 b2 b3 (allCd [] (ps.map TxnQ.e)).length c1 (allVl [] (ps.map TxnQ.e)).length c2 (allI [] (ps.map TxnQ.e)).length c3 w3
 have oB' : itemK.Own w3 (.slice b3 (allI [] (ps.map TxnQ.e)).length c3) (allI [] (ps.map TxnQ.e)):=⟨oB,fun _ _=>trivial⟩
 have hbG:Below w3.heap.size w3 (w3.alloc (.cells #[.slice a1 q1.length k1,.slice b3 (allI [] (ps.map TxnQ.e)).length c3,.slice a2 q3.length k2,.slice none 0 0,.slice none 0 0] 28)):=by go_grown
 have Bg:=Blk.new w3 28 #[.slice a1 q1.length k1,.slice b3 (allI [] (ps.map TxnQ.e)).length c3,.slice a2 q3.length k2,.slice none 0 0,.slice none 0 0]
 replace Bv:=Bv.below hbG
 replace o1:=o1.below hbG
 replace o3:=o3.below hbG
 replace oB' := oB'.below hbG
 replace hb0:=hb0.trans (hbG.mono (by omega))
 have hr4:=hR _ hb0
 have s4:=hbG.size
 have hgl:=Bg.lt
 have hte:=l9Tent_any b3 c3 (allI [] (ps.map TxnQ.e)) (.slice a' qs.length cap') qs _ oB'.at (oB'.niceV _ _ _ rfl) hr4.2 hF2 hl2 gD.1 gD.2
 have x1:=Bg.cell 1 _ rfl
 go_wp2_with fail
 clear hf3 x1 hbG oB
 generalize hW4:w3.alloc (.cells #[.slice a1 q1.length k1,.slice b3 (allI [] (ps.map TxnQ.e)).length c3,.slice a2 q3.length k2,.slice none 0 0,.slice none 0 0] 28)=w4 at *
 clear hW4
 generalize hg:w3.heap.size=g at *
 refine hte.mono ?_
 rintro e w5 ⟨ua,uc,na,nc,us,ys,rfl,eU,eY,oU,oY,nU,gU,gY,hb⟩
 clear hte
 have s5:=hb.size
 have iU:=oU.lt
 have iY:=own_blk oY.1
 replace Bv:=Bv.below hb
 replace Bg:=Bg.below hb
 replace o1:=o1.below hb
 replace o3:=o3.below hb
 replace oB' := oB'.below hb
 replace hb0:=hb0.trans (hb.mono (by omega))
 clear hb hr0 hr1 hr2 hr3 hr4 hR
 have y3:=Bg.cell 3 _ rfl
 have y4:=Bg.cell 4 _ rfl
 have f3:=Bg.frozen 3
 have f4:=Bg.frozen 4
 have B2:Blk ((w5.setCell ⟨g,3,none⟩ (.slice ua us.length uc)).setCell ⟨g,4,none⟩ (.slice na ys.length nc)) g 28 #[.slice a1 q1.length k1,.slice b3 (allI [] (ps.map TxnQ.e)).length c3,.slice a2 q3.length k2,.slice ua us.length uc,.slice na ys.length nc]:=by
  have:=(Bg.set 3 (.slice ua us.length uc)).set 4 (.slice na ys.length nc)
  simpa using this
 have Bv2:=(Bv.other (b' := g) (by omega) 3 (.slice ua us.length uc)).other (b' := g) (by omega) 4 (.slice na ys.length nc)
 have hS2:Out [g] w5 ((w5.setCell ⟨g,3,none⟩ (.slice ua us.length uc)).setCell ⟨g,4,none⟩ (.slice na ys.length nc)):=(Out.setCell w5 g 3 _).trans (Out.setCell _ g 4 _)
 have RF:Hid (∀ u0 u1 u2 u3 u4:Value,repK.own (((((((w5.setCell ⟨g,3,none⟩ (.slice ua us.length uc)).setCell ⟨g,4,none⟩ (.slice na ys.length nc)).setCell ⟨H,0,none⟩ u0).setCell ⟨H,1,none⟩ u1).setCell ⟨H,2,none⟩ u2).setCell ⟨H,3,none⟩ u3).setCell ⟨H,4,none⟩ u4) (⟨.slice a1 q1.length k1,q1,.slice b3 (allI [] (ps.map TxnQ.e)).length c3,allI [] (ps.map TxnQ.e),.slice a2 q3.length k2,q3,.slice ua us.length uc,us,.slice na ys.length nc,ys⟩:RepQ)∧Below H w (((((((w5.setCell ⟨g,3,none⟩ (.slice ua us.length uc)).setCell ⟨g,4,none⟩ (.slice na ys.length nc)).setCell ⟨H,0,none⟩ u0).setCell ⟨H,1,none⟩ u1).setCell ⟨H,2,none⟩ u2).setCell ⟨H,3,none⟩ u3).setCell ⟨H,4,none⟩ u4)):=fun u0 u1 u2 u3 u4=>by
  have hS:Out [H] ((w5.setCell ⟨g,3,none⟩ (.slice ua us.length uc)).setCell ⟨g,4,none⟩ (.slice na ys.length nc)) (((((((w5.setCell ⟨g,3,none⟩ (.slice ua us.length uc)).setCell ⟨g,4,none⟩ (.slice na ys.length nc)).setCell ⟨H,0,none⟩ u0).setCell ⟨H,1,none⟩ u1).setCell ⟨H,2,none⟩ u2).setCell ⟨H,3,none⟩ u3).setCell ⟨H,4,none⟩ u4):=((((Out.setCell _ H 0 u0).trans (Out.setCell _ H 1 u1)).trans (Out.setCell _ H 2 u2)).trans (Out.setCell _ H 3 u3)).trans (Out.setCell _ H 4 u4)
  have hA:Out [g,H] w5 (((((((w5.setCell ⟨g,3,none⟩ (.slice ua us.length uc)).setCell ⟨g,4,none⟩ (.slice na ys.length nc)).setCell ⟨H,0,none⟩ u0).setCell ⟨H,1,none⟩ u1).setCell ⟨H,2,none⟩ u2).setCell ⟨H,3,none⟩ u3).setCell ⟨H,4,none⟩ u4):=(hS2.mono (fun x hx=>by simp only [List.mem_singleton] at hx;simp [hx])).trans (hS.mono (fun x hx=>by simp only [List.mem_singleton] at hx;simp [hx]))
  have nn:∀ x,x≠g→x≠H→x ∉ [g,H]:=fun x h1 h2 hm=>by
   simp only [List.mem_cons,List.not_mem_nil,or_false] at hm
   omega
  refine ⟨⟨o1.out hA (fun x hx=>nn x (by have:=i1 x hx;omega) (by have:=g1 x hx;omega)),oB'.out hA (fun x hx=>by rw [itemK_fp] at hx;exact nn x (by have:=iB x hx;omega) (by have:=gB x hx;omega)),o3.out hA (fun x hx=>nn x (by have:=i3 x hx;omega) (by have:=g3 x hx;omega)),oU.out hA (fun x hx=>nn x (by have:=(gU x hx).1;omega) (by have:=(gU x hx).1;omega)),oY.out hA (fun x hx=>by rw [itemK_fp] at hx;exact nn x (by have:=gY x hx;omega) (by have:=gY x hx;omega))⟩,?_⟩
  refine Out.keep (Out.keep hb0 hS2 (by omega) (fun x hx=>by simp only [List.mem_singleton] at hx;omega)) hS (by have:=hS2.size;omega) (fun x hx=>by simp only [List.mem_singleton] at hx;omega)
 have R1:Hid ((repK.foot (⟨.slice a1 q1.length k1,q1,.slice b3 (allI [] (ps.map TxnQ.e)).length c3,allI [] (ps.map TxnQ.e),.slice a2 q3.length k2,q3,.slice ua us.length uc,us,.slice na ys.length nc,ys⟩:RepQ)).Nodup∧∀ x∈repK.foot (⟨.slice a1 q1.length k1,q1,.slice b3 (allI [] (ps.map TxnQ.e)).length c3,allI [] (ps.map TxnQ.e),.slice a2 q3.length k2,q3,.slice ua us.length uc,us,.slice na ys.length nc,ys⟩:RepQ),H≤x):=by
  have E1:itemK.fp (.slice b3 (allI [] (ps.map TxnQ.e)).length c3) (allI [] (ps.map TxnQ.e))=blk (.slice b3 (allI [] (ps.map TxnQ.e)).length c3):=itemK_fp _ _
  have E2:itemK.fp (.slice na ys.length nc) ys=blk (.slice na ys.length nc):=itemK_fp _ _
  show List.Nodup (txnK.fp (.slice a1 q1.length k1) q1 ++ (itemK.fp (.slice b3 (allI [] (ps.map TxnQ.e)).length c3) (allI [] (ps.map TxnQ.e)) ++ (txnK.fp (.slice a2 q3.length k2) q3 ++ (ussK.fp (.slice ua us.length uc) us ++ itemK.fp (.slice na ys.length nc) ys))))∧∀ x∈txnK.fp (.slice a1 q1.length k1) q1 ++ (itemK.fp (.slice b3 (allI [] (ps.map TxnQ.e)).length c3) (allI [] (ps.map TxnQ.e)) ++ (txnK.fp (.slice a2 q3.length k2) q3 ++ (ussK.fp (.slice ua us.length uc) us ++ itemK.fp (.slice na ys.length nc) ys))),H≤x
  rw [E1,E2]
  have bA:∀ x∈txnK.fp (.slice a1 q1.length k1) q1,W0.heap.size≤x∧x < w1.heap.size:=fun x hx=>⟨g1 x hx,i1 x hx⟩
  have bC:∀ x∈txnK.fp (.slice a2 q3.length k2) q3,w1.heap.size≤x∧x < w2.heap.size:=fun x hx=>⟨g3 x hx,i3 x hx⟩
  have bB:∀ x∈blk (.slice b3 (allI [] (ps.map TxnQ.e)).length c3),w2.heap.size≤x∧x < g:=fun x hx=>⟨gB x hx,by have:=iB x hx;omega⟩
  have bU:∀ x∈ussK.fp (.slice ua us.length uc) us,w4.heap.size≤x:=fun x hx=>(gU x hx).1
  refine ⟨List.nodup_append.2 ⟨n1,List.nodup_append.2 ⟨blk_nodup _,List.nodup_append.2 ⟨n3,List.nodup_append.2 ⟨nU,blk_nodup _,fun x hx y hy e=>(gU x hx).2 (e ▸ hy)⟩,?_⟩,?_⟩,?_⟩,?_⟩
  ·intro x hx y hy e
   have:=bC x hx
   rcases List.mem_append.1 hy with hy | hy
   ·have:=bU y hy;omega
   ·have:=gY y hy;omega
  ·intro x hx y hy e
   have:=bB x hx
   rcases List.mem_append.1 hy with hy | hy
   ·have:=bC y hy;omega
   rcases List.mem_append.1 hy with hy | hy
   ·have:=bU y hy;omega
   ·have:=gY y hy;omega
  ·intro x hx y hy e
   have:=bA x hx
   rcases List.mem_append.1 hy with hy | hy
   ·have:=bB y hy;omega
   rcases List.mem_append.1 hy with hy | hy
   ·have:=bC y hy;omega
   rcases List.mem_append.1 hy with hy | hy
   ·have:=bU y hy;omega
   ·have:=gY y hy;omega
  ·intro x hx
   rcases List.mem_append.1 hx with hx | hx
   ·have:=bA x hx;omega
   rcases List.mem_append.1 hx with hx | hx
   ·have:=bB x hx;omega
   rcases List.mem_append.1 hx with hx | hx
   ·have:=bC x hx;omega
   rcases List.mem_append.1 hx with hx | hx
   ·have:=bU x hx;omega
   ·have:=gY x hx;omega
 have R2:Hid (RepQ.e (⟨.slice a1 q1.length k1,q1,.slice b3 (allI [] (ps.map TxnQ.e)).length c3,allI [] (ps.map TxnQ.e),.slice a2 q3.length k2,q3,.slice ua us.length uc,us,.slice na ys.length nc,ys⟩:RepQ)=mkR (ps.map TxnQ.e) (qs.map TxnQ.e)):=show _=_ by
  simp only [RepQ.e,mkR,e1,e3,eU,eY]
 clear e1 e3 eU eY oU oY nU gU gY iU iY o1 o3 oB' n1 n3 g1 g3 i1 i3 gB iB hS2 gD hFD hF1 hF2
 have r0:=B2.cell 0 _ rfl
 have r1:=B2.cell 1 _ rfl
 have r2:=B2.cell 2 _ rfl
 have r3:=B2.cell 3 _ rfl
 have r4:=B2.cell 4 _ rfl
 have z0:=Bv2.cell 0 _ rfl
 have z1:=Bv2.cell 1 _ rfl
 have z2:=Bv2.cell 2 _ rfl
 have z3:=Bv2.cell 3 _ rfl
 have z4:=Bv2.cell 4 _ rfl
 have t0:=Bv2.frozen 0
 have t1:=Bv2.frozen 1
 have t2:=Bv2.frozen 2
 have t3:=Bv2.frozen 3
 have t4:=Bv2.frozen 4
 clear Bg Bv B2 Bv2 hb0
 go_wp2
 exact bodyPost_ret (v:=.agg #[.slice a1 q1.length k1,.slice b3 (allI [] (ps.map TxnQ.e)).length c3,.slice a2 q3.length k2,.slice ua us.length uc,.slice na ys.length nc]) (by simp [results,Tryz.results66,go_sem,z0,z1,z2,z3,z4]) rfl ⟨(⟨.slice a1 q1.length k1,q1,.slice b3 (allI [] (ps.map TxnQ.e)).length c3,allI [] (ps.map TxnQ.e),.slice a2 q3.length k2,q3,.slice ua us.length uc,us,.slice na ys.length nc,ys⟩:RepQ),rfl,R2.out,(RF.out _ _ _ _ _).1,R1.out.1,(by rw [hH];exact R1.out.2),(by rw [hH];exact (RF.out _ _ _ _ _).2)⟩

end Go.Proofs.YthmcgflmejofbaaGreatDoor
namespace Go.Proofs.YthmcgflmejofbaaGreatDoor
open Go.RowKit
open Go.BigFrame
set_option maxRecDepth 100000
set_option maxRecDepth 100000 in
set_option maxHeartbeats 1000000 in
theorem l2CopyS9_any (i s q:Int) (b off cap:Nat) (zs:List ActD) (w:World) (h:ActRow w (some ⟨b,off,none⟩) zs) (hl:zs.length≤1048576) :
  Calls Tryz.prog 135 #[.agg #[.int .i64 i,.int .i64 s,.int .i64 q,.slice (some ⟨b,off,none⟩) zs.length cap]] w fun e w' => ∃ a c,e=.returned (.agg #[.int .i64 i,.int .i64 s,.int .i64 q,.slice a zs.length c]) ∧
   w'.ownsRow w.heap.size 135 3 (.slice a zs.length c) zs.length (actCells zs)∧Below w.heap.size w w' := by
 obtain ⟨i0,hi,hz0,hz1,hz2⟩:=info_parts infoAct
 have hs:=lies_src (Lies.below h (w' := ((w.alloc (.cells #[.int .i64 i,.int .i64 s,.int .i64 q,.slice (some ⟨b,off,none⟩) zs.length cap] 31)).alloc (.cells #[.int .i64 0,.int .i64 0,.int .i64 0,.slice none 0 0] 31)).alloc (.cells #[] 135)) (by go_grown))
 have hcl:=actCells_length zs
 have ho:=World.ownsRow_lit (e:=135) (size:=3) ((w.alloc (.cells #[.int .i64 i,.int .i64 s,.int .i64 q,.slice (some ⟨b,off,none⟩) zs.length cap] 31)).alloc (.cells #[.int .i64 0,.int .i64 0,.int .i64 0,.slice none 0 0] 31)) #[] 0 (Nat.le_refl _) (by decide) rfl
 have hb1:Below w.heap.size w (((w.alloc (.cells #[.int .i64 i,.int .i64 s,.int .i64 q,.slice (some ⟨b,off,none⟩) zs.length cap] 31)).alloc (.cells #[.int .i64 0,.int .i64 0,.int .i64 0,.slice none 0 0] 31)).alloc (.cells #[] 135)):=by go_grown
 have B1:=(Blk.new w 31 #[.int .i64 i,.int .i64 s,.int .i64 q,.slice (some ⟨b,off,none⟩) zs.length cap]).below (w' := ((w.alloc (.cells #[.int .i64 i,.int .i64 s,.int .i64 q,.slice (some ⟨b,off,none⟩) zs.length cap] 31)).alloc (.cells #[.int .i64 0,.int .i64 0,.int .i64 0,.slice none 0 0] 31)).alloc (.cells #[] 135)) (by go_grown)
 have B2:=(Blk.new (w.alloc (.cells #[.int .i64 i,.int .i64 s,.int .i64 q,.slice (some ⟨b,off,none⟩) zs.length cap] 31)) 31 #[.int .i64 0,.int .i64 0,.int .i64 0,.slice none 0 0]).below (w' := ((w.alloc (.cells #[.int .i64 i,.int .i64 s,.int .i64 q,.slice (some ⟨b,off,none⟩) zs.length cap] 31)).alloc (.cells #[.int .i64 0,.int .i64 0,.int .i64 0,.slice none 0 0] 31)).alloc (.cells #[] 135)) (by go_grown)
 have HS:Hid (∀ j u,(actCells zs)[j]? = some u→_):=hs
 clear hs
 simp only [World.size_alloc] at B2 ho
 go_enter Tryz.func135,Tryz.ntmps135
 go_wp2_with (at_builtin;refine wpList_append_own _ rfl _ _ 29 rfl (w.heap.size + 1 + 1) 135 i0 (.agg #[.int .i64 0,.int .i64 0,.int .i64 0]) 3 24 Tryz.underlying29 hi hz0 hz1 hz2 rfl (by decide) _ 0 [] rfl ho ⟨b,off,none⟩ zs.length cap (actCells zs) rfl hcl HS.out ?c2 ?c3 ?c4 ?c5 ?_)
 all_goals try (case c2=>exact acts_oneCell zs)
 all_goals try (case c3=>unfold maxLen;omega)
 all_goals try (case c4=>omega)
 all_goals try (case c5=>simp)
 intro v' w2 hown hgrow _
 obtain ⟨a2,c2,rfl⟩:=own_shape hown
 replace B1:=B1.grown hgrow (by simp [Value.ownBlock] <;> omega)
 replace B2:=B2.grown hgrow (by simp [Value.ownBlock] <;> omega)
 have hb2:Below w.heap.size w w2:=hb1.grown hgrow (by simp;omega) (fun k hk=>by simp [Value.ownBlock] at hk;omega)
 have hlt2:=B2.lt
 have p0:=B1.cell 0 _ rfl
 have p1:=B1.cell 1 _ rfl
 have p2:=B1.cell 2 _ rfl
 have p3:=B1.cell 3 _ rfl
 have pf:=B1.frozen 3
 have q0:=B2.cell 0 _ rfl
 have q1:=B2.cell 1 _ rfl
 have q2:=B2.cell 2 _ rfl
 have q3:=B2.cell 3 _ rfl
 have f0:=B2.frozen 0
 have f1:=B2.frozen 1
 have f2:=B2.frozen 2
 have f3:=B2.frozen 3
 try simp only [Nat.zero_add] at hown
 clear B1 B2 hgrow HS ho hb1
 go_wp2
 refine bodyPost_ret (v:=.agg #[.int .i64 i,.int .i64 s,.int .i64 q,.slice a2 zs.length c2]) (by simp [results,Tryz.results135,go_sem,q0,q1,q2,q3]) rfl ⟨_,_,rfl,?_,?_⟩
 ·refine own_base (base:=w.heap.size + 1 + 1) ?_ (by omega)
  repeat' (refine ownsRow_setCell_below ?_ (by dsimp only;omega) _)
  simpa using hown
 ·repeat' (refine Below.setCell ?_ (by dsimp only;omega) _)
  exact hb2

set_option maxRecDepth 100000 in
set_option maxHeartbeats 1000000 in
theorem l2CopyN9_any (i s q:Int) (w:World) :
  Calls Tryz.prog 135 #[.agg #[.int .i64 i,.int .i64 s,.int .i64 q,.slice none 0 0]] w fun e w' => ∃ a c,e=.returned (.agg #[.int .i64 i,.int .i64 s,.int .i64 q,.slice a 0 c]) ∧
   w'.ownsRow w.heap.size 135 3 (.slice a 0 c) 0 (actCells [])∧Below w.heap.size w w' := by
 obtain ⟨i0,hi,hz0,hz1,hz2⟩:=info_parts infoAct
 have ho:=World.ownsRow_lit (e:=135) (size:=3) ((w.alloc (.cells #[.int .i64 i,.int .i64 s,.int .i64 q,.slice none 0 0] 31)).alloc (.cells #[.int .i64 0,.int .i64 0,.int .i64 0,.slice none 0 0] 31)) #[] 0 (Nat.le_refl _) (by decide) rfl
 have hb1:Below w.heap.size w (((w.alloc (.cells #[.int .i64 i,.int .i64 s,.int .i64 q,.slice none 0 0] 31)).alloc (.cells #[.int .i64 0,.int .i64 0,.int .i64 0,.slice none 0 0] 31)).alloc (.cells #[] 135)):=by go_grown
 have B1:=(Blk.new w 31 #[.int .i64 i,.int .i64 s,.int .i64 q,.slice none 0 0]).below (w' := ((w.alloc (.cells #[.int .i64 i,.int .i64 s,.int .i64 q,.slice none 0 0] 31)).alloc (.cells #[.int .i64 0,.int .i64 0,.int .i64 0,.slice none 0 0] 31)).alloc (.cells #[] 135)) (by go_grown)
 have B2:=(Blk.new (w.alloc (.cells #[.int .i64 i,.int .i64 s,.int .i64 q,.slice none 0 0] 31)) 31 #[.int .i64 0,.int .i64 0,.int .i64 0,.slice none 0 0]).below (w' := ((w.alloc (.cells #[.int .i64 i,.int .i64 s,.int .i64 q,.slice none 0 0] 31)).alloc (.cells #[.int .i64 0,.int .i64 0,.int .i64 0,.slice none 0 0] 31)).alloc (.cells #[] 135)) (by go_grown)
 simp only [World.size_alloc] at B2 ho
 go_enter Tryz.func135,Tryz.ntmps135
 go_wp2_with (at_builtin;refine wpList_append_own_none rfl _ _ 29 rfl (w.heap.size + 1 + 1) 135 i0 3 Tryz.underlying29 hi _ 0 [] rfl ho rfl ?_)
 have hlt2:=B2.lt
 have p0:=B1.cell 0 _ rfl
 have p1:=B1.cell 1 _ rfl
 have p2:=B1.cell 2 _ rfl
 have p3:=B1.cell 3 _ rfl
 have pf:=B1.frozen 3
 have q0:=B2.cell 0 _ rfl
 have q1:=B2.cell 1 _ rfl
 have q2:=B2.cell 2 _ rfl
 have q3:=B2.cell 3 _ rfl
 have f0:=B2.frozen 0
 have f1:=B2.frozen 1
 have f2:=B2.frozen 2
 have f3:=B2.frozen 3
 clear B1 B2
 go_wp2
 refine bodyPost_ret (v:=.agg #[.int .i64 i,.int .i64 s,.int .i64 q,.slice (some ⟨w.heap.size + 1 + 1,0,none⟩) 0 0]) (by simp [results,Tryz.results135,go_sem]) rfl ⟨_,_,rfl,?_,?_⟩
 ·have h9:=World.ownsRow_lit (e:=135) (size:=3) ((w.alloc (.cells #[.int .i64 i,.int .i64 s,.int .i64 q,.slice (some ⟨w.heap.size + 1 + 1,0,none⟩) 0 0] 31)).alloc (.cells #[.int .i64 i,.int .i64 s,.int .i64 q,.slice (some ⟨w.heap.size + 1 + 1,0,none⟩) 0 0] 31)) #[] 0 (Nat.le_refl _) (by decide) rfl
  simp only [World.size_alloc] at h9
  exact own_base h9 (by omega)
 ·go_grown

/-- A list of transactions whose acts begin somewhere, or are none. -/
def NiceQ9 (p:TxnQ):Prop:=(p.va=.slice none 0 0∧p.acts=[])∨∃ b off c,p.va=.slice (some ⟨b,off,none⟩) p.acts.length c

set_option maxHeartbeats 2000000 in
theorem l2CopyG9_any (p:TxnQ) (w:World) (h:txnK.rd w p) (hN:NiceQ9 p) (hl:p.acts.length≤1048576) :
  Calls Tryz.prog 135 #[.agg #[.int .i64 p.i,.int .i64 p.s,.int .i64 p.q,p.va]] w fun e w' => ∃ a c,e=.returned (.agg #[.int .i64 p.i,.int .i64 p.s,.int .i64 p.q,.slice a p.acts.length c]) ∧
   w'.ownsRow w.heap.size 135 3 (.slice a p.acts.length c) p.acts.length (actCells p.acts)∧Below w.heap.size w w' := by
 obtain ⟨i,s,q,va,acts⟩:=p
 dsimp only
 rcases hN with ⟨e1,e2⟩ | ⟨b,off,c,e1⟩
 ·dsimp only at e1 e2
  subst e1 e2
  exact l2CopyN9_any i s q w
 ·dsimp only at e1
  subst e1
  have hT:actK.At w (.slice (some ⟨b,off,none⟩) acts.length c) acts:=h
  exact l2CopyS9_any i s q b off c acts w (actK_at hT).2 hl

set_option maxHeartbeats 2000000 in
theorem l2CopyAll9_any (v:Value) (ps:List TxnQ) (w:World) (h:txnK.At w v ps) (hne:∀ p∈ps,NiceQ9 p) (hl:ps.length + nmL TxnQ.n ps≤1048576) :
  Calls Tryz.prog 80 #[v] w fun e w' => ∃ v' qs,e=.returned v' ∧ qs.map TxnQ.e=ps.map TxnQ.e∧txnK.Own w' v' qs∧(txnK.fp v' qs).Nodup∧(∀ k∈txnK.fp v' qs,w.heap.size≤k)∧Below w.heap.size w w' := by
 obtain ⟨a,cap,rfl⟩:=h.shape
 obtain ⟨i0,hi,hz0,hz1,hz2⟩:=info_parts infoTxn
 have ho:=World.ownsRow_lit (e:=31) (size:=4) w #[] 0 (Nat.le_refl _) (by decide) rfl
 have hn1:txnK.Own (w.alloc (.cells #[] 31)) (.slice (some ⟨w.heap.size,0,none⟩) 0 0) ([]:List TxnQ):=⟨(own_zero ho).1,fun p hp=>by simp at hp⟩
 have hnb:Below w.heap.size w (w.alloc (.cells #[] 31)):=by go_grown
 have HN0:Hid ((txnK.fp (.slice (some ⟨w.heap.size,0,none⟩) 0 0) ([]:List TxnQ)).Nodup∧∀ k∈txnK.fp (.slice (some ⟨w.heap.size,0,none⟩) 0 0) ([]:List TxnQ),w.heap.size≤k):=by
  refine ⟨?_,?_⟩
  ·simp [Kind.fp,blk,Value.ownBlock]
  ·simp [Kind.fp,blk,Value.ownBlock]
 clear ho
 go_enter Tryz.func80,Tryz.ntmps80
 go_wp2
 go_loopw [3,4] (fun v j wr=>∃ (k:Nat) (qs:List TxnQ),k≤ps.length∧j=.int .i64 k∧Hid (qs.map TxnQ.e=(ps.take k).map TxnQ.e)∧txnK.Own wr v qs∧Hid ((txnK.fp v qs).Nodup∧∀ k∈txnK.fp v qs,w.heap.size≤k)∧Below w.heap.size w wr) (fun _ j _=>ps.length - (intOf j).toNat)
 case atStart=>exact ⟨0,[],Nat.zero_le _,rfl,(rfl:_=_),hn1,HN0,hnb⟩
 case round=>
  clear HN0 hn1 hnb
  obtain ⟨k,qs,hk,rfl,HE,hO,HN,hb⟩:=hrel
  obtain ⟨sa,sc,rfl⟩:=hO.shape
  have HQL:Hid (qs.length=k):=by
   have:=congrArg List.length HE.out
   rw [List.length_map,List.length_map,List.length_take] at this
   show qs.length=k
   omega
  by_cases hlt:k < ps.length
  ·obtain ⟨b,off,rfl,hbs,hc,hrd⟩:=(h.below hb).cell (by decide) k hlt
   have hc' : ∀ j x,(txnK.cells ps[k])[j]? = some x→wr.cell? ⟨b,off + k * 4 + j,none⟩=some x:=hc
   have c0:=hc' 0 (.int .i64 ps[k].i) rfl
   have c1:=hc' 1 (.int .i64 ps[k].s) rfl
   have c2:=hc' 2 (.int .i64 ps[k].q) rfl
   have c3:=hc' 3 (ps[k].va) rfl
   have hzl:=nm_le TxnQ.n ps k hlt
   have hpos:=hne _ (List.getElem_mem hlt)
   have HPE:Hid (∀ p' : TxnQ,p'.e=TxnQ.e ps[k]→(qs ++ [p']).map TxnQ.e=(ps.take (k + 1)).map TxnQ.e):=fun p' hp' => by
    rw [List.take_succ_eq_append_getElem hlt,List.map_append,List.map_append,HE.out,List.map_singleton,List.map_singleton,hp']
   clear hc hc'
   generalize ps[k]=p at *
   obtain ⟨i,s,q,va,acts⟩:=p
   replace hrd:actK.At wr va acts:=hrd
   replace hzl:acts.length≤nmL TxnQ.n ps:=hzl
   obtain ⟨aa,ac,rfl⟩:=hrd.shape
   dsimp only at c0 c1 c2 c3
   have hcl:=l2CopyG9_any (⟨i,s,q,.slice aa acts.length ac,acts⟩:TxnQ) wr hrd hpos (by dsimp only;omega)
   dsimp only at hcl
   rw [Nat.add_zero] at c0
   clear HE
   go_wp2_with fail
   clear c0 c1 c2 c3
   have hYs:w.heap.size≤wr.heap.size:=hb.size
   refine hcl.mono ?_
   rintro e w2 ⟨a2,c2,rfl,ho2,hb2⟩
   have HLT:=hO.lt
   replace hO:=hO.below hb2
   replace hb:=hb.trans (hb2.mono hb.size)
   obtain ⟨o2,hk2⟩:=own_zero ho2
   have hP:txnK.own w2 ⟨i,s,q,.slice a2 acts.length c2,acts⟩:=⟨o2,fun _ _=>trivial⟩
   have hPlo:∀ x∈txnK.foot ⟨i,s,q,.slice a2 acts.length c2,acts⟩,wr.heap.size≤x:=fun x hx=>hk2 x (by rw [← actK_fp (.slice a2 acts.length c2) acts];exact hx)
   have hPn:(txnK.foot ⟨i,s,q,.slice a2 acts.length c2,acts⟩).Nodup:=by
    show (actK.fp _ _).Nodup
    rw [actK_fp];exact blk_nodup _
   have hbA:Below w2.heap.size w2 (w2.alloc (.cells #[.int .i64 i,.int .i64 s,.int .i64 q,.slice a2 acts.length c2] 31)):=by go_grown
   have hOA:=hO.below hbA
   have hPA:=txnK.own_out (F:=[]) hP (Out.of_below hbA) (fun _ _=>by simp)
   have hbB:=hb.trans (hbA.mono hb.size)
   clear hcl ho2 hO hP hk2
   have hrow0:=hOA.1
   go_wp2_with (at_builtin;refine wpList_append_own_at _ rfl _ _ 24 rfl 0 31 i0 (.agg #[.int .i64 0,.int .i64 0,.int .i64 0,.slice none 0 0]) 4 48 Tryz.underlying24 hi hz0 hz1 hz2 rfl (by decide) _ qs.length (txnK.row qs) rfl hrow0 ⟨w2.heap.size,0,none⟩ 1 1 [.int .i64 i,.int .i64 s,.int .i64 q,.slice a2 acts.length c2] rfl rfl ?c1 ?c2 ?c3 ?c4 ?c5 ?_)
   all_goals try (case c1=>intro j u hj;match j,hj with | 0,hj=>simp at hj;subst hj;simp [Addr.add] | 1,hj=>simp at hj;subst hj;simp [Addr.add] | 2,hj=>simp at hj;subst hj;simp [Addr.add] | 3,hj=>simp at hj;subst hj;simp [Addr.add])
   all_goals try (case c2=>intro u hu;simp at hu;rcases hu with rfl | rfl | rfl | rfl <;> rfl)
   all_goals try (case c3=>have:=HQL.out;unfold maxLen;omega)
   all_goals try (case c4=>have:=HQL.out;omega)
   all_goals try (case c5=>first | omega | simp)
   intro v' w5 hown hgrow hnil hat
   clear hnil hrow0
   rw [show w2.heap.size + 1=(w2.alloc (.cells #[.int .i64 i,.int .i64 s,.int .i64 q,.slice a2 acts.length c2] 31)).heap.size from (World.size_alloc _ _).symm] at hat
   generalize hwA:w2.alloc (.cells #[.int .i64 i,.int .i64 s,.int .i64 q,.slice a2 acts.length c2] 31)=WA at *
   clear hwA
   have hsz:wr.heap.size≤WA.heap.size:=by have:=hb2.size;have:=hbA.size;omega
   obtain ⟨hO5,hn5,hlo5,hou⟩:=hOA.snoc HN.out.1 HN.out.2 hPA hPn (fun x hx hx' => by have:=HLT x hx';have:=hPlo x hx;omega) (fun x hx=>by have:=hPlo x hx;omega) hbB.size hown hgrow hat
   have hb5:Below w.heap.size w w5:=Out.keep hbB hou hbB.size (fun x hx=>HN.out.2 x (by simp only [Kind.fp,List.mem_append];exact Or.inl hx))
   have HE5:Hid ((qs ++ [(⟨i,s,q,.slice a2 acts.length c2,acts⟩:TxnQ)]).map TxnQ.e=(ps.take (k + 1)).map TxnQ.e):=HPE.out _ rfl
   have HN5:Hid ((txnK.fp v' (qs ++ [(⟨i,s,q,.slice a2 acts.length c2,acts⟩:TxnQ)])).Nodup∧∀ k∈txnK.fp v' (qs ++ [(⟨i,s,q,.slice a2 acts.length c2,acts⟩:TxnQ)]),w.heap.size≤k):=⟨hn5,hlo5⟩
   clear HPE HN HLT hPlo hPn hPA hOA hbB hown hgrow hat hou hn5 hlo5 hrd hb hbA hb2 hzl hpos
   go_wp2
   go_roundw
   case rel=>exact ⟨k + 1,_,by omega,by go_num,HE5,hO5,HN5,hb5⟩
   case measure=>simp [intOf];omega
  ·have hkl:k=ps.length:=by omega
   subst hkl
   have hE:=HE.out
   rw [List.take_length] at hE
   clear HE
   go_wp2
   go_ret
   exact ⟨_,qs,rfl,hE,hO,HN.out.1,HN.out.2,hb⟩

theorem niceQ_of {w:World} {p:TxnQ} (h:txnK.own w p):NiceQ9 p:=by
 have h:actK.Own w p.va p.acts:=h
 rcases h.1.2 with ⟨h1,h0⟩ | ⟨g,cap,cur,h1,_⟩
 ·exact Or.inl ⟨h1,List.eq_nil_of_length_eq_zero h0⟩
 ·exact Or.inr ⟨g,0,cap,h1⟩

end Go.Proofs.YthmcgflmejofbaaGreatDoor
