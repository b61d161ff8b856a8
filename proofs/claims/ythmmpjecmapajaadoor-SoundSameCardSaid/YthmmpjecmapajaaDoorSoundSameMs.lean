/- Texts that SoundSame's proof stands on, part 19 of 48. No condition of its own. -/
import Derived.Test.YthmmpjecmapajaaDoorSoundSameMc
import Derived.Test.YthmmpjecmapajaaDoorSoundSameMf
import Derived.RegionTactic
import Derived.Deep.RegionWith
