/- No condition. -/
import Derived.Test.YtkgabfmjfhljdaaDoorResidueLevelsMa
import Derived.Test.YtkgabfmjfhljdaaDoorResidueLevelsMb
import Derived.Test.YtkgabfmjfhljdaaDoorResidueLevelsMh
import Derived.Test.YtkgabfmjfhljdaaDoorResidueLevelsMi
import Derived.Test.YtkgabfmjfhljdaaDoorResidueLevelsMn
import Derived.WalkMore
import Derived.IntWalk
import Derived.Great.BuildSlice
import Derived.BigQuiet
import Derived.Deep.QuietTactic
namespace Go.Proofs.YtkgabfmjfhljdaaDoor
open Go.RowKit Go.Lib
def Ypo:List Int:=[64,64,64,64,89,75,50,18,83,36,-36,-83,75,-18,-89,-50,64,-64,-64,64,50,-89,18,75,36,-83,83,-36,18,-50,75,-89]
def Ypm:Array Value:=arn 32 fun i=>Ypo[i]?.getD 0
end Go.Proofs.YtkgabfmjfhljdaaDoor