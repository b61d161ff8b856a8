/- Texts that CellinTakes's proof stands on, part 36 of 38. No condition of its own. -/
import Derived.Test.YtbgncbhkjndelaaGreatDoorCellinTakesMba
import Derived.RegionTactic
import Derived.Deep.RegionWith
import Derived.Deep.CutRange
import Derived.Deep.DeepCutAuto
