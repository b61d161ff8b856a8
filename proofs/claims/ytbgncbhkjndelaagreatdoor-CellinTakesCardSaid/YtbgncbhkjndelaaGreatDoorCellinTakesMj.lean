/- Texts that CellinTakes's proof stands on, part 10 of 38. No condition of its own. -/
import Derived.Test.YtbgncbhkjndelaaGreatDoorCellinTakesMe
import Derived.Deep.Slices
import Derived.Deep.MidRow
