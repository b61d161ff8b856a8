/- No condition. -/
import Derived.Test.YtdnjefldijjgdaaGreatDoorRebuildCellsMg
import Derived.Test.YtdnjefldijjgdaaGreatDoorRebuildCellsMbk
import Derived.Test.YtdnjefldijjgdaaGreatDoorRebuildCellsMbo
namespace Go.Proofs.YtdnjefldijjgdaaGreatDoor
open Go.RowKit Go.Lib
theorem Ysn {F:Nat→Nat→Int}{s b i:Nat}(h1:s / 64=b)(h2:s%64=i):ptF F s=F b i:=by
 unfold ptF;rw[h1,h2]
end Go.Proofs.YtdnjefldijjgdaaGreatDoor