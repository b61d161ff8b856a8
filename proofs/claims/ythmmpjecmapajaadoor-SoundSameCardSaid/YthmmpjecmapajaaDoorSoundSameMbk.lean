/- Texts that SoundSame's proof stands on, part 37 of 48. No condition of its own. -/
import Derived.Test.YthmmpjecmapajaaDoorSoundSameMy
import Derived.Test.YthmmpjecmapajaaDoorSoundSameMbe
import Derived.Test.YthmmpjecmapajaaDoorSoundSameMbg
import Derived.Test.YthmmpjecmapajaaDoorSoundSameMbj
