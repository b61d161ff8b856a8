/- No condition. -/
import Derived.Test.YtdnjefldijjgdaaDoorRebuildSumsMa
import Derived.Test.YtdnjefldijjgdaaDoorRebuildSumsMe
import Derived.Test.YtdnjefldijjgdaaDoorRebuildSumsMf
import Derived.Test.YtdnjefldijjgdaaDoorRebuildSumsMg
import Derived.Test.YtdnjefldijjgdaaDoorRebuildSumsMp
import Derived.Test.YtdnjefldijjgdaaDoorRebuildSumsMq
import Derived.Test.YtdnjefldijjgdaaDoorRebuildSumsMs
import Derived.Test.YtdnjefldijjgdaaDoorRebuildSumsMz
import Derived.Test.YtdnjefldijjgdaaDoorRebuildSumsMbi
import Derived.Test.YtdnjefldijjgdaaDoorRebuildSumsMbk
import Derived.Deep.MidRow
import Derived.WalkKit
import Derived.Laws.OwnMore
import Derived.Deep.Slices
namespace Go.Proofs.YtdnjefldijjgdaaDoor
open Go.RowKit Go.Lib
theorem Yo0 {F:Nat→Nat→Int}{s b i:Nat}(h1:s / 64=b)(h2:s%64=i):ptF F s=F b i:=by
 unfold ptF;rw[h1,h2]
end Go.Proofs.YtdnjefldijjgdaaDoor