/- Texts that StepsFloor's proof stands on, part 3 of 10. No condition of its own. -/
import Derived.Test.YtoecmledmbafbaaDoorStepsFloorMa
import Derived.Test.YtoecmledmbafbaaDoorStepsFloorMb
import Derived.Test.YtoecmledmbafbaaDoorRows
import Derived.WalkKit
import Derived.WalkSpells
import Derived.ProofKit
import Derived.Lib.Hide
import Derived.LoopTactic
import Derived.Laws.Concat
import Derived.Outline
import Derived.Below
