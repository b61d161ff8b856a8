/- No condition. -/
import Derived.Test.YtdnjefldijjgdaaDoorRebuildSkipsMa
import Derived.Test.YtdnjefldijjgdaaDoorRebuildSkipsMg
import Derived.Test.YtdnjefldijjgdaaDoorRebuildSkipsMh
import Derived.Test.YtdnjefldijjgdaaDoorRebuildSkipsMu
import Derived.Test.YtdnjefldijjgdaaDoorRebuildSkipsMv
import Derived.Lib.SlBuf
import Derived.WalkKit
import Derived.Laws.Bits64b
import Derived.Laws.Externs
import Derived.Lib.MakeNoZero
import Derived.Deep.Draws
import Derived.WalkMore
namespace Go.Proofs.YtdnjefldijjgdaaDoor
open Go.RowKit Go.Lib
section
variable {w w':World}{lo:Nat}{v:Nat→Value}{g n:Nat→Nat}{f:Nat→Nat→Int}{i:Nat}
end
theorem Ydn:(Tryd.prog.info? 31).map (·.size)=some 4:=by kernel_rfl
end Go.Proofs.YtdnjefldijjgdaaDoor