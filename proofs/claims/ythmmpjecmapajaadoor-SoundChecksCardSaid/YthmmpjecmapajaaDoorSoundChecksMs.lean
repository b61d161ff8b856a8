/- Texts that SoundChecks's proof stands on, part 19 of 48. No condition of its own. -/
import Derived.Test.YthmmpjecmapajaaDoorSoundChecksMc
import Derived.Test.YthmmpjecmapajaaDoorSoundChecksMf
import Derived.RegionTactic
import Derived.Deep.RegionWith
