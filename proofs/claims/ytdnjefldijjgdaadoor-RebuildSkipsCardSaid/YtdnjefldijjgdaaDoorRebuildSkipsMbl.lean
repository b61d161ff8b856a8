/- No condition. -/
import Derived.Test.YtdnjefldijjgdaaDoorRebuildSkipsMa
import Derived.Test.YtdnjefldijjgdaaDoorRebuildSkipsMb
import Derived.Test.YtdnjefldijjgdaaDoorRebuildSkipsMh
import Derived.Test.YtdnjefldijjgdaaDoorRebuildSkipsMi
import Derived.Test.YtdnjefldijjgdaaDoorRebuildSkipsMn
import Derived.WalkMore
import Derived.IntWalk
import Derived.Great.BuildSlice
import Derived.BigQuiet
import Derived.Deep.QuietTactic
namespace Go.Proofs.YtdnjefldijjgdaaDoor
open Go.RowKit Go.Lib
def Ysk:List Int:=[64,64,64,64,89,75,50,18,83,36,-36,-83,75,-18,-89,-50,64,-64,-64,64,50,-89,18,75,36,-83,83,-36,18,-50,75,-89]
def Ysi:Array Value:=arn 32 fun i=>Ysk[i]?.getD 0
end Go.Proofs.YtdnjefldijjgdaaDoor