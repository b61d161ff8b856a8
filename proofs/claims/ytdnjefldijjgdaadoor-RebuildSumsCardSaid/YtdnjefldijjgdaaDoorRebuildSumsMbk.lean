/- No condition. -/
import Derived.Test.YtdnjefldijjgdaaDoorRebuildSumsMa
import Derived.Test.YtdnjefldijjgdaaDoorRebuildSumsMb
import Derived.Test.YtdnjefldijjgdaaDoorRebuildSumsMg
import Derived.Test.YtdnjefldijjgdaaDoorRebuildSumsMh
import Derived.Test.YtdnjefldijjgdaaDoorRebuildSumsMm
import Derived.WalkMore
import Derived.IntWalk
import Derived.Great.BuildSlice
import Derived.BigQuiet
import Derived.Deep.QuietTactic
namespace Go.Proofs.YtdnjefldijjgdaaDoor
open Go.RowKit Go.Lib
def Yqv:List Int:=[64,64,64,64,89,75,50,18,83,36,-36,-83,75,-18,-89,-50,64,-64,-64,64,50,-89,18,75,36,-83,83,-36,18,-50,75,-89]
def Yqt:Array Value:=arn 32 fun i=>Yqv[i]?.getD 0
end Go.Proofs.YtdnjefldijjgdaaDoor