/- Texts that SoundChecks's proof stands on, part 21 of 48. No condition of its own. -/
import Derived.Test.YthmmpjecmapajaaDoorSoundChecksMa
import Derived.Test.YthmmpjecmapajaaDoorSoundChecksMf
import Derived.WalkKit
import Derived.WalkMore
import Derived.Lib.Strings
