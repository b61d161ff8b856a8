/- Texts that SheetheadTakes's proof stands on, part 7 of 20. No condition of its own. -/
import Derived.Test.YtgbnpmpkfkijdaaSheetheadTakesMe
import Derived.Deep.Slices
import Derived.Deep.MidRow
