/- Texts that SoundSame's proof stands on, part 23 of 48. No condition of its own. -/
import Derived.Test.YthmmpjecmapajaaDoorSoundSameMf
import Derived.Test.YthmmpjecmapajaaDoorSoundSameMv
import Derived.WalkKit
import Derived.Lib.LaidTab
import Derived.MakeChecks
