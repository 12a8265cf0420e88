/- Texts joined,with what the laws reach alone. -/
import Derived.Test.YtfpponhjhbfbeaaGreatDoorSOAN
set_option linter.unusedVariables false
set_option linter.unusedSimpArgs false
set_option maxRecDepth 100000
namespace Go.Proofs.YtfpponhjhbfbeaaGreatDoor
open Go.RowKit Go.BigFrame
def coF(has:Bool)(coin:Int):Int:=if coin=1∧has=false then 0 else coin
def goC(x:InstE)(node round mask coin:Int):Int:=if atC x node round=0 then(if proA x.rounds round.toNat node.toNat=3 then 8 else if chC (x.rounds.getD round.toNat rnd0).pro mask (coF x.has coin)=0 then rpC x.rounds (round.toNat+1) node.toNat else chC (x.rounds.getD round.toNat rnd0).pro mask (coF x.has coin))else atC x node round
def goI(x:InstE)(node round mask coin:Int):InstE:=if goC x node round mask coin=0 then⟨x.has,x.batch,rpI x.rounds (round.toNat+1) node.toNat (cfV (x.rounds.getD round.toNat rnd0).pro mask (coF x.has coin)),if cfD (x.rounds.getD round.toNat rnd0).pro mask (coF x.has coin)then x.dec.set node.toNat (cfV (x.rounds.getD round.toNat rnd0).pro mask (coF x.has coin))else x.dec⟩else z1w
def goZ(x:InstE)(node round mask coin:Int):Int:=0
def goD(x:InstE)(node round mask coin:Int):Bool:=if goC x node round mask coin=0 then cfD (x.rounds.getD round.toNat rnd0).pro mask (coF x.has coin)else false
def goK(x:InstE)(node round mask coin:Int):Bool:=if goC x node round mask coin=0 then cfK (x.rounds.getD round.toNat rnd0).pro mask (coF x.has coin)else false
def goV(x:InstE)(node round mask coin:Int):Int:=if goC x node round mask coin=0 then cfV (x.rounds.getD round.toNat rnd0).pro mask (coF x.has coin)else 0
def z9X(x:InstE)(node round mask coin c:Int):Prop:=goC x node round mask coin=c∧goI x node round mask coin=z1w∧goZ x node round mask coin=0∧goD x node round mask coin=false∧goK x node round mask coin=false∧goV x node round mask coin=0
theorem z8E{x:InstE}{node round mask coin c:Int}(h:goC x node round mask coin=c)(h0:c≠0):z9X x node round mask coin c:=by
 have hc:¬goC x node round mask coin=0:=by rw[h];exact h0
 exact⟨h,if_neg hc,rfl,if_neg hc,if_neg hc,if_neg hc⟩
theorem z4M(x:InstE)(node round mask coin:Int):(atC x node round≠0→z9X x node round mask coin (atC x node round))∧
  (atC x node round=0→insF x=0∧∃ n r:Nat,node=(n:Int)∧round=(r:Int)∧n < 3∧r < x.rounds.length ∧
   (proA x.rounds r n=3→z9X x node round mask coin 8)∧
   (proA x.rounds r n≠3→chC (x.rounds.getD r rnd0).pro mask (coF x.has coin)≠0→z9X x node round mask coin (chC (x.rounds.getD r rnd0).pro mask (coF x.has coin)))∧
   (proA x.rounds r n≠3→chC (x.rounds.getD r rnd0).pro mask (coF x.has coin)=0→rpC x.rounds (r+1) n≠0→z9X x node round mask coin (rpC x.rounds (r+1) n))∧
   (proA x.rounds r n≠3→chC (x.rounds.getD r rnd0).pro mask (coF x.has coin)=0→rpC x.rounds (r + 1) n=0→goC x node round mask coin=0∧goI x node round mask coin=⟨x.has,x.batch,rpI x.rounds (r + 1) n (cfV (x.rounds.getD r rnd0).pro mask (coF x.has coin)),if cfD (x.rounds.getD r rnd0).pro mask (coF x.has coin) then x.dec.set n (cfV (x.rounds.getD r rnd0).pro mask (coF x.has coin)) else x.dec⟩∧goZ x node round mask coin=0∧goD x node round mask coin=cfD (x.rounds.getD r rnd0).pro mask (coF x.has coin)∧goK x node round mask coin=cfK (x.rounds.getD r rnd0).pro mask (coF x.has coin)∧goV x node round mask coin=cfV (x.rounds.getD r rnd0).pro mask (coF x.has coin))):=by
 refine⟨fun h0=>z8E (if_neg h0) h0,fun h0=>?_⟩;obtain⟨hi,n,r,rfl,rfl,hn,hr⟩:=z50 h0;refine⟨hi,n,r,rfl,rfl,hn,hr,fun h1=>?_,fun h1 h2=>?_,fun h1 h2 h3=>?_,fun h1 h2 h3=>?_⟩
 ·exact z8E (by unfold goC;rw[if_pos h0,Int.toNat_natCast,Int.toNat_natCast,if_pos h1]) (by decide)
 ·exact z8E (by unfold goC;rw[if_pos h0,Int.toNat_natCast,Int.toNat_natCast,if_neg h1,if_neg h2]) h2
 ·exact z8E (by unfold goC;rw[if_pos h0,Int.toNat_natCast,Int.toNat_natCast,if_neg h1,if_pos h2]) h3
 ·have e:goC x n r mask coin=0:=by unfold goC;rw[if_pos h0,Int.toNat_natCast,Int.toNat_natCast,if_neg h1,if_pos h2,h3]
  refine⟨e,?_,rfl,?_,?_,?_⟩
  ·unfold goI;rw[if_pos e,Int.toNat_natCast,Int.toNat_natCast]
  ·unfold goD;rw[if_pos e,Int.toNat_natCast]
  ·unfold goK;rw[if_pos e,Int.toNat_natCast]
  ·unfold goV;rw[if_pos e,Int.toNat_natCast]
end Go.Proofs.YtfpponhjhbfbeaaGreatDoor
