/- Texts that CelloutPuts's proof stands on, part 9 of 37. No condition of its own. -/
import Derived.Test.YtekjgcchnmnplaaDoorCelloutPutsMf
import Derived.Test.YtekjgcchnmnplaaDoorCelloutPutsMh
import Derived.WalkKit
import Derived.Lib.LaidTab
import Derived.MakeChecks
