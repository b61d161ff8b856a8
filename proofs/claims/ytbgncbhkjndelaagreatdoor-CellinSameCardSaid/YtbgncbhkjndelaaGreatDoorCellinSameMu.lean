/- Texts that CellinSame's proof stands on, part 21 of 35. No condition of its own. -/
import Derived.Test.YtbgncbhkjndelaaGreatDoorCellinSameMe
import Derived.Test.YtbgncbhkjndelaaGreatDoorCellinSameMt
import Derived.WalkKit
import Derived.Lib.LaidTab
import Derived.MakeChecks
