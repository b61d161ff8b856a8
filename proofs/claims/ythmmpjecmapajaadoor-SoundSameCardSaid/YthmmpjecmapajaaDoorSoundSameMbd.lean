/- Texts that SoundSame's proof stands on, part 30 of 48. No condition of its own. -/
import Derived.Test.YthmmpjecmapajaaDoorSoundSameMba
import Derived.Laws.OwnMore
import Derived.Deep.AppendLies
import Derived.WalkMore
import Derived.IntWalk
