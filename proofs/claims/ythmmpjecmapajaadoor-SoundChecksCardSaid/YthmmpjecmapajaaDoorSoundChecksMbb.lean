/- Texts that SoundChecks's proof stands on, part 28 of 48. No condition of its own. -/
import Derived.Test.YthmmpjecmapajaaDoorSoundChecksMc
import Derived.Test.YthmmpjecmapajaaDoorSoundChecksMw
import Derived.Test.YthmmpjecmapajaaDoorSoundChecksMba
import Derived.WalkMore
import Derived.IntWalk
