/- Texts that CelloutBack's proof stands on, part 8 of 45. No condition of its own. -/
import Derived.Test.YtekjgcchnmnplaaGreatDoorCelloutBackMe
import Derived.Test.YtekjgcchnmnplaaGreatDoorCelloutBackMg
import Derived.WalkKit
import Derived.Lib.LaidTab
import Derived.MakeChecks
