/- Texts joined,with what the laws reach alone. -/
import Derived.Test.YtlkpdgjnhkjpjaaGreatDoorSYAB
set_option linter.unusedVariables false
set_option linter.unusedSimpArgs false
set_option maxRecDepth 100000
namespace Go.Proofs.YtlkpdgjnhkjpjaaGreatDoor
open Go.RowKit Go.BigFrame
theorem Blk.cel8{w:World}{b:Nat}{t:TypeId}{x0 x1 x2 x3 x4 x5 x6 x7:Value}{r:List Value}(h:Blk w b t (x0::x1::x2::x3::x4::x5::x6::x7::r).toArray):w.cell? ⟨b,0,none⟩=some x0∧w.cell? ⟨b,1,none⟩=some x1∧w.cell? ⟨b,2,none⟩=some x2∧w.cell? ⟨b,3,none⟩=some x3∧w.cell? ⟨b,4,none⟩=some x4∧w.cell? ⟨b,5,none⟩=some x5∧w.cell? ⟨b,6,none⟩=some x6∧w.cell? ⟨b,7,none⟩=some x7:=
 ⟨h.cell 0 _ rfl,h.cell 1 _ rfl,h.cell 2 _ rfl,h.cell 3 _ rfl,h.cell 4 _ rfl,h.cell 5 _ rfl,h.cell 6 _ rfl,h.cell 7 _ rfl⟩
theorem Blk.lts8{w:World}{b:Nat}{t:TypeId}{x0 x1 x2 x3 x4 x5 x6 x7:Value}{r:List Value}(h:Blk w b t (x0::x1::x2::x3::x4::x5::x6::x7::r).toArray):(∀u:Lat w,u.val.cell? ⟨b,0,none⟩=some x0)∧(∀u:Lat w,u.val.cell? ⟨b,1,none⟩=some x1)∧(∀u:Lat w,u.val.cell? ⟨b,2,none⟩=some x2)∧(∀u:Lat w,u.val.cell? ⟨b,3,none⟩=some x3)∧(∀u:Lat w,u.val.cell? ⟨b,4,none⟩=some x4)∧(∀u:Lat w,u.val.cell? ⟨b,5,none⟩=some x5)∧(∀u:Lat w,u.val.cell? ⟨b,6,none⟩=some x6)∧(∀u:Lat w,u.val.cell? ⟨b,7,none⟩=some x7):=
 ⟨h.lat 0 _ rfl,h.lat 1 _ rfl,h.lat 2 _ rfl,h.lat 3 _ rfl,h.lat 4 _ rfl,h.lat 5 _ rfl,h.lat 6 _ rfl,h.lat 7 _ rfl⟩
end Go.Proofs.YtlkpdgjnhkjpjaaGreatDoor
