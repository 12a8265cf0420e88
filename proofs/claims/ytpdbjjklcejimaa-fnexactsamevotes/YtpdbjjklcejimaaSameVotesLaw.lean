/- FnExactSameVotes walked: it comes out true, and only new memory is made. No condition. -/
import Derived.Test.YtpdbjjklcejimaaU10
import Derived.Test.YtpdbjjklcejimaaVoteSame
namespace Go.Proofs.Ytpdbjjklcejimaa
open Go.RowKit
open Go.BigFrame
set_option linter.unusedVariables false
set_option linter.unusedSimpArgs false

set_option maxHeartbeats 4000000 in
theorem sameVotesLaw (a0 : Option Addr) (cap0 : Nat) (zs0 : List VoteD) (a1 : Option Addr) (cap1 : Nat) (zs1 : List VoteD) (w : World) (h0 : VoteRow w a0 zs0) (hn0 : zs0.length ≤ 9223372036854775807) (h1 : VoteRow w a1 zs1) (hn1 : zs1.length ≤ 9223372036854775807) :
    Calls Try.prog 7 #[.slice a0 zs0.length cap0, .slice a1 zs1.length cap1] w fun e w' => e = .returned (.bool true) ∧ Below w.heap.size w w' := by
  have hb0 : Below w.heap.size w w := Below.refl _ _
  go_enter Try.func7, Try.ntmps7
  go_wp2_with fail
  refine (szVotes_u a0 zs0.length cap0 1048576 _ hn0 (by omega) (by omega)).mono ?_
  rintro e y0 ⟨sz0, rfl, hs0, hb⟩
  replace hb0 := hb0.trans (hb.mono hb0.size)
  clear hb
  by_cases hbig0 : sz0 < 0
  · go_wp2
    go_ret
    exact ⟨rfl, hb0⟩
  have hl0 : zs0.length ≤ 1048576 := by have := hs0 (by omega); omega
  have hk0 : sz0 ≤ 1048576 := by have := hs0 (by omega); omega
  have hj0 : 0 ≤ sz0 := by omega
  clear hs0
  go_wp2_with fail
  refine (szVotes_u a1 zs1.length cap1 sz0 _ hn1 (by omega) (by omega)).mono ?_
  rintro e y1 ⟨sz1, rfl, hs1, hb⟩
  replace hb0 := hb0.trans (hb.mono hb0.size)
  clear hb
  by_cases hbig1 : sz1 < 0
  · go_wp2
    go_ret
    exact ⟨rfl, hb0⟩
  have hl1 : zs1.length ≤ 1048576 := by have := hs1 (by omega); omega
  have hk1 : sz1 ≤ 1048576 := by have := hs1 (by omega); omega
  have hj1 : 0 ≤ sz1 := by omega
  clear hs1
  have hto0 := fun w h => toVotes_u a0 cap0 zs0 w h hl0
  have hto1 := fun w h => toVotes_u a1 cap1 zs1 w h hl1
  have hsp := fun a c a2 c2 w h h2 => specSameVotes_any a a2 c c2 zs0 zs1 w h h2 hl0 hl1
  have him := fun a c a2 c2 w h h2 => implSameVotes_any a a2 c c2 zs0 zs1 w h h2 hl0 hl1
  generalize sameVs zs0 zs1 = r at hsp him
  have hrr : (r != r) = false := by simp
  go_wp2_with fail
  refine (hto0 _ (h0.below hb0)).mono ?_
  rintro e us0 ⟨xas0, xcs0, rfl, os0, hb⟩
  replace hb0 := hb0.trans (hb.mono hb0.size)
  clear hb
  go_wp2_with fail
  refine (hto1 _ (h1.below hb0)).mono ?_
  rintro e us1 ⟨xas1, xcs1, rfl, os1, hb⟩
  replace hb0 := hb0.trans (hb.mono hb0.size)
  replace os0 := os0.below hb
  clear hb
  go_wp2_with fail
  refine (hsp _ _ _ _ _ (os0.lies) (os1.lies)).mono ?_
  rintro e vs ⟨rfl, hb⟩
  replace hb0 := hb0.trans (hb.mono hb0.size)
  clear hb os0 os1
  go_wp2_with fail
  replace h0 := h0.below hb0
  replace h1 := h1.below hb0
  have b2 : Below vs.heap.size vs vs := Below.refl _ _
  refine (hto0 _ (h0.below b2)).mono ?_
  rintro e ux0 ⟨xax0, xcx0, rfl, ox0, hb⟩
  have hzx0 := hb.size
  replace b2 := b2.trans (hb.mono b2.size)
  clear hb
  go_wp2_with fail
  refine (hto1 _ (h1.below b2)).mono ?_
  rintro e ux1 ⟨xax1, xcx1, rfl, ox1, hb⟩
  have hzx1 := hb.size
  replace b2 := b2.trans (hb.mono b2.size)
  replace ox0 := ox0.below hb
  clear hb
  go_wp2_with fail
  refine (him _ _ _ _ _ (ox0.lies) (ox1.lies)).mono ?_
  rintro e vg ⟨rfl, hb⟩
  have hzg := hb.size
  replace b2 := b2.trans (hb.mono b2.size)
  replace ox0 := ox0.below hb
  replace ox1 := ox1.below hb
  clear hb
  -- alike
  go_wp2_with fail
  refine (hto0 _ (h0.below b2)).mono ?_
  rintro e ue0 ⟨xae0, xce0, rfl, oe0, hb⟩
  replace b2 := b2.trans (hb.mono b2.size)
  replace ox0 := ox0.below hb
  replace ox1 := ox1.below hb
  clear hb
  go_wp2_with fail
  refine (eqVoteS_true _ _ _ _ zs0 _ ox0.lies oe0.lies (by omega)).mono ?_
  rintro e ze0 ⟨rfl, hb⟩
  replace b2 := b2.trans (hb.mono b2.size)
  replace ox0 := ox0.below hb
  replace ox1 := ox1.below hb
  clear hb oe0
  go_wp2_with fail
  refine (hto1 _ (h1.below b2)).mono ?_
  rintro e ue1 ⟨xae1, xce1, rfl, oe1, hb⟩
  replace b2 := b2.trans (hb.mono b2.size)
  replace ox0 := ox0.below hb
  replace ox1 := ox1.below hb
  clear hb
  go_wp2_with fail
  refine (eqVoteS_true _ _ _ _ zs1 _ ox1.lies oe1.lies (by omega)).mono ?_
  rintro e ze1 ⟨rfl, hb⟩
  replace b2 := b2.trans (hb.mono b2.size)
  replace ox0 := ox0.below hb
  replace ox1 := ox1.below hb
  clear hb oe1
  go_wp2
  go_ret
  exact ⟨rfl, hb0.trans (b2.mono hb0.size)⟩

end Go.Proofs.Ytpdbjjklcejimaa
