import Derived.Test.YtlkpdgjnhkjpjaaGreatDoorSYAT
import Derived.Test.YtlkpdgjnhkjpjaaGreatDoorSYBF
import Derived.Test.YtlkpdgjnhkjpjaaGreatDoorSYBQ
set_option linter.unusedVariables false
set_option linter.unusedSimpArgs false
set_option maxRecDepth 100000
namespace Go.Proofs.YtlkpdgjnhkjpjaaGreatDoor
open Go.RowKit Go.BigFrame
def leC(ds:List InstE)(kn sf:Int)(x:RepE):Int:=if nodF ds kn sf x=0 then(if kn<(decN ds:Int)then 0 else 4)else nodF ds kn sf x
def leA(ds:List InstE)(kn sf:Int)(x:RepE):Int:=if leC ds kn sf x=0 then dlA x (q4G ds kn x)else 0
def leK(ds:List InstE)(kn sf:Int)(x:RepE):Int:=if leC ds kn sf x=0 then kn+1 else 0
def leS(ds:List InstE)(kn sf:Int)(x:RepE):Int:=if leC ds kn sf x=0 then sf else 0
def leE(ds:List InstE)(kn sf:Int)(x:RepE):RepE:=if leC ds kn sf x=0 then dlE x (q4G ds kn x)else⟨[],[],[],[],[]⟩
theorem q7m{ds:List InstE}{kn sf:Int}{x:RepE}(h:leC ds kn sf x≠0):leA ds kn sf x=0∧leK ds kn sf x=0∧leS ds kn sf x=0∧leE ds kn sf x=⟨[],[],[],[],[]⟩:=⟨if_neg h,if_neg h,if_neg h,if_neg h⟩
theorem q7p{ds:List InstE}{kn sf:Int}{x:RepE}(h:nodF ds kn sf x≠0):leC ds kn sf x=nodF ds kn sf x∧leA ds kn sf x=0∧leK ds kn sf x=0∧leS ds kn sf x=0∧leE ds kn sf x=⟨[],[],[],[],[]⟩:=by
  have h1:leC ds kn sf x=nodF ds kn sf x:=if_neg h;exact⟨h1,q7m (by rw[h1];exact h)⟩
theorem q7q{ds:List InstE}{kn sf:Int}{x:RepE}(h:nodF ds kn sf x=0)(hk:¬kn<(decN ds:Int)):leC ds kn sf x=4∧leA ds kn sf x=0∧leK ds kn sf x=0∧leS ds kn sf x=0∧leE ds kn sf x=⟨[],[],[],[],[]⟩:=by
  have h1:leC ds kn sf x=4:=by unfold leC;rw[if_pos h,if_neg hk]
  exact⟨h1,q7m (by rw[h1];decide)⟩
theorem q7s{ds:List InstE}{kn sf:Int}{x:RepE}(h:nodF ds kn sf x=0)(hk:kn<(decN ds:Int)):leC ds kn sf x=0∧leA ds kn sf x=dlA x (q4G ds kn x)∧leK ds kn sf x=kn+1∧leS ds kn sf x=sf∧leE ds kn sf x=dlE x (q4G ds kn x):=by
  have h1:leC ds kn sf x=0:=by unfold leC;rw[if_pos h,if_pos hk]
  exact⟨h1,if_pos h1,if_pos h1,if_pos h1,if_pos h1⟩
theorem q7r{ds:List InstE}{kn sf:Int}{x:RepE}(h:nodF ds kn sf x=0):diV ds=(decN ds:Int):=by
  unfold diV;rw[if_pos (z3j h).1]
theorem z57{ds:List InstE}{kn sf:Int}{r:RepE}(h:nodF ds kn sf r=0)(hk:kn<(decN ds:Int)):dfC ds (kn+1)=0∧dfT ds (kn+1)=r.done++q4G ds kn r∧0≤kn∧kn≤4:=by
  obtain⟨h0,h1,h2,h3,h4⟩:=z3j h;have h5:decN ds≤ds.length:=by unfold decN;split<;>omega
  have h6:=((z3G ds).1 h0).1.2;rcases z9L ds (kn+1)with⟨a,_⟩|⟨_,a,_⟩|⟨_,_,a,b⟩
  · exact absurd h0 a
  · exact absurd (by omega) a
  · exact⟨a,b.trans (z90 h),h1.1,by omega⟩
end Go.Proofs.YtlkpdgjnhkjpjaaGreatDoor
