/- No condition. -/
import Derived.Shelf.Strings.OnBuilder
import Derived.Test.YtdnjefldijjgdaaDoorProg
namespace Go.Proofs
open Go.Shelf
def Tryd.lJoin_ren:Go.Shelf.Ren:=⟨fun|156=>72|165=>77|166=>78|169=>79|240=>85|241=>86|276=>88|277=>89|n=>n,fun|31=>110|9=>9|3=>3|4=>4|0=>0|20=>20|72=>119|76=>123|70=>117|37=>28|75=>122|127=>131|164=>136|5=>5|80=>125|n=>n,fun|n=>n⟩
theorem Tryd.lJoin:Go.Proofs.Lays.n156 Tryd.prog Tryd.lJoin_ren:={
 mixed:=by kernel_rfl
 f156:=Tryd.func72.trans (congrArg some (by kernel_rfl))
 f165:=Tryd.func77.trans (congrArg some (by kernel_rfl))
 f166:=Tryd.func78.trans (congrArg some (by kernel_rfl))
 f169:=Tryd.func79.trans (congrArg some (by kernel_rfl))
 f240:=Tryd.func85.trans (congrArg some (by kernel_rfl))
 f241:=Tryd.func86.trans (congrArg some (by kernel_rfl))
 f276:=Tryd.func88.trans (congrArg some (by kernel_rfl))
 f277:=Tryd.func89.trans (congrArg some (by kernel_rfl))
 t0:=Tryd.underlying0
 a0:=Tryd.isAgg0
 z0:=Tryd.sizeOf0
 v0:=Tryd.zeroValue0
 t3:=Tryd.underlying3
 a3:=Tryd.isAgg3
 z3:=Tryd.sizeOf3
 v3:=Tryd.zeroValue3
 t4:=Tryd.underlying4
 a4:=Tryd.isAgg4
 z4:=Tryd.sizeOf4
 v4:=Tryd.zeroValue4
 t9:=Tryd.underlying9
 a9:=Tryd.isAgg9
 z9:=Tryd.sizeOf9
 v9:=Tryd.zeroValue9
 t20:=Tryd.underlying20
 a20:=Tryd.isAgg20
 z20:=Tryd.sizeOf20
 v20:=Tryd.zeroValue20
 t31:=Tryd.underlying110
 a31:=Tryd.isAgg110
 z31:=Tryd.sizeOf110
 v31:=Tryd.zeroValue110
 t37:=Tryd.underlying28
 a37:=Tryd.isAgg28
 z37:=Tryd.sizeOf28
 v37:=Tryd.zeroValue28
 t70:=Tryd.underlying117
 a70:=Tryd.isAgg117
 z70:=Tryd.sizeOf117
 v70:=Tryd.zeroValue117
 t72:=Tryd.underlying119
 a72:=Tryd.isAgg119
 z72:=Tryd.sizeOf119
 v72:=Tryd.zeroValue119
 t75:=Tryd.underlying122
 a75:=Tryd.isAgg122
 z75:=Tryd.sizeOf122
 v75:=Tryd.zeroValue122
 t76:=Tryd.underlying123
 a76:=Tryd.isAgg123
 z76:=Tryd.sizeOf123
 v76:=Tryd.zeroValue123
 t127:=Tryd.underlying131
 a127:=Tryd.isAgg131
 z127:=Tryd.sizeOf131
 v127:=Tryd.zeroValue131
 t164:=Tryd.underlying136
 a164:=Tryd.isAgg136
 z164:=Tryd.sizeOf136
 v164:=Tryd.zeroValue136}
end Go.Proofs