/- Texts that SoundChecks's proof stands on, part 23 of 48. No condition of its own. -/
import Derived.Test.YthmmpjecmapajaaDoorSoundChecksMf
import Derived.Test.YthmmpjecmapajaaDoorSoundChecksMv
import Derived.WalkKit
import Derived.Lib.LaidTab
import Derived.MakeChecks
