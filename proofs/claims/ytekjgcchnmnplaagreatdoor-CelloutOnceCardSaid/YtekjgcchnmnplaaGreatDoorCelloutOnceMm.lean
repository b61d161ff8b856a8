/- Texts that CelloutOnce's proof stands on, part 13 of 45. No condition of its own. -/
import Derived.Test.YtekjgcchnmnplaaGreatDoorCelloutOnceMl
import Derived.Deep.Slices
import Derived.Deep.MidRow
