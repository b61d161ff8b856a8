/- No condition. -/
import Derived.Test.YtdnjefldijjgdaaDoorRebuildSkipsMa
import Derived.Test.YtdnjefldijjgdaaDoorRebuildSkipsMe
import Derived.Test.YtdnjefldijjgdaaDoorRebuildSkipsMg
import Derived.Test.YtdnjefldijjgdaaDoorRebuildSkipsMh
import Derived.Test.YtdnjefldijjgdaaDoorRebuildSkipsMq
import Derived.Test.YtdnjefldijjgdaaDoorRebuildSkipsMr
import Derived.Test.YtdnjefldijjgdaaDoorRebuildSkipsMt
import Derived.Test.YtdnjefldijjgdaaDoorRebuildSkipsMba
import Derived.Test.YtdnjefldijjgdaaDoorRebuildSkipsMbj
import Derived.Test.YtdnjefldijjgdaaDoorRebuildSkipsMbl
import Derived.Deep.MidRow
import Derived.WalkKit
import Derived.Laws.OwnMore
namespace Go.Proofs.YtdnjefldijjgdaaDoor
open Go.RowKit Go.Lib
theorem Yqo {F:Nat→Nat→Int}{s b i:Nat}(h1:s / 64=b)(h2:s%64=i):ptF F s=F b i:=by
 unfold ptF;rw[h1,h2]
end Go.Proofs.YtdnjefldijjgdaaDoor