/- What Clip of package whole returns, and the document's own answer for it. Conditions: numbers are what an int holds. -/
import Derived.Test.YtknmhemajmiboaaRows
import Derived.Test.YtknmhemajmiboaaNums
import Derived.WalkKit
import Derived.ProofKit
import Derived.Lib.Hide
namespace Go.Proofs.Ytknmhemajmiboaa
open Go.RowKit

end Go.Proofs.Ytknmhemajmiboaa
