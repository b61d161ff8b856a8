/- No condition. -/
import Derived.Test.YtdnjefldijjgdaaGreatDoorRebuildCellsMh
import Derived.Test.YtdnjefldijjgdaaGreatDoorRebuildCellsMv
import Derived.Lib.SlBuf
import Derived.WalkKit
import Derived.Laws.Bits64b
import Derived.Laws.Externs
import Derived.Lib.MakeNoZero
import Derived.Deep.Draws
namespace Go.Proofs.YtdnjefldijjgdaaGreatDoor
open Go.RowKit Go.Lib
section
variable {w w':World}{lo:Nat}{v:Nat→Value}{g n:Nat→Nat}{f:Nat→Nat→Int}{i:Nat}
end
theorem Yd0:(Tryz.prog.info? 25).map (·.size)=some 4:=by kernel_rfl
end Go.Proofs.YtdnjefldijjgdaaGreatDoor