/- Texts that SoundSame's proof stands on, part 28 of 48. No condition of its own. -/
import Derived.Test.YthmmpjecmapajaaDoorSoundSameMc
import Derived.Test.YthmmpjecmapajaaDoorSoundSameMw
import Derived.Test.YthmmpjecmapajaaDoorSoundSameMba
import Derived.WalkMore
import Derived.IntWalk
