/- Texts that SoundSame's proof stands on, part 21 of 48. No condition of its own. -/
import Derived.Test.YthmmpjecmapajaaDoorSoundSameMa
import Derived.Test.YthmmpjecmapajaaDoorSoundSameMf
import Derived.WalkKit
import Derived.WalkMore
import Derived.Lib.Strings
