/- Texts that CellinSame's proof stands on, part 3 of 35. No condition of its own. -/
import Derived.Test.YtbgncbhkjndelaaGreatDoorCellinSameMa
import Derived.Test.YtbgncbhkjndelaaGreatDoorCellinSameMb
import Derived.Test.YtbgncbhkjndelaaGreatDoorRows
import Derived.WalkKit
import Derived.WalkSpells
import Derived.ProofKit
import Derived.Lib.Hide
import Derived.LoopTactic
import Derived.Laws.Concat
import Derived.Outline
import Derived.Below
namespace Go.Proofs.YtbgncbhkjndelaaGreatDoor
open Go.RowKit
theorem shr_one (x : Int) : bits .and .i64 x 1 = x % 2 := and_low x 1 (by omega)
end Go.Proofs.YtbgncbhkjndelaaGreatDoor
