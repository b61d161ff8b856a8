/- No condition. -/
import Derived.Shelf.Strings.OnBuilder
import Derived.Test.YtkgabfmjfhljdaaDoorProg
namespace Go.Proofs
open Go.Shelf
def Tryd.lJoin_ren:Go.Shelf.Ren:=⟨fun|156=>72|165=>77|166=>78|169=>79|240=>85|241=>86|276=>88|277=>89|n=>n,fun|31=>56|9=>9|3=>3|4=>4|0=>0|20=>20|72=>105|76=>109|70=>102|37=>103|75=>108|127=>118|164=>123|5=>5|80=>111|n=>n,fun|n=>n⟩
theorem Tryd.lJoin:Go.Proofs.Lays.n156 Tryd.prog Tryd.lJoin_ren:={
 mixed:=by kernel_rfl
 f156:=Tryd.func72.trans (congrArg some (by kernel_rfl))
 f165:=Tryd.func77.trans (congrArg some (by kernel_rfl))
 f166:=Tryd.func78.trans (congrArg some (by kernel_rfl))
 f169:=Tryd.func79.trans (congrArg some (by kernel_rfl))
 f240:=Tryd.func85.trans (congrArg some (by kernel_rfl))
 f241:=Tryd.func86.trans (congrArg some (by kernel_rfl))
 f276:=Tryd.func88.trans (congrArg some (by kernel_rfl))
 f277:=Tryd.func89.trans (congrArg some (by kernel_rfl))
 t0:=Tryd.underlying0
 a0:=Tryd.isAgg0
 z0:=Tryd.sizeOf0
 v0:=Tryd.zeroValue0
 t3:=Tryd.underlying3
 a3:=Tryd.isAgg3
 z3:=Tryd.sizeOf3
 v3:=Tryd.zeroValue3
 t4:=Tryd.underlying4
 a4:=Tryd.isAgg4
 z4:=Tryd.sizeOf4
 v4:=Tryd.zeroValue4
 t9:=Tryd.underlying9
 a9:=Tryd.isAgg9
 z9:=Tryd.sizeOf9
 v9:=Tryd.zeroValue9
 t20:=Tryd.underlying20
 a20:=Tryd.isAgg20
 z20:=Tryd.sizeOf20
 v20:=Tryd.zeroValue20
 t31:=Tryd.underlying56
 a31:=Tryd.isAgg56
 z31:=Tryd.sizeOf56
 v31:=Tryd.zeroValue56
 t37:=Tryd.underlying103
 a37:=Tryd.isAgg103
 z37:=Tryd.sizeOf103
 v37:=Tryd.zeroValue103
 t70:=Tryd.underlying102
 a70:=Tryd.isAgg102
 z70:=Tryd.sizeOf102
 v70:=Tryd.zeroValue102
 t72:=Tryd.underlying105
 a72:=Tryd.isAgg105
 z72:=Tryd.sizeOf105
 v72:=Tryd.zeroValue105
 t75:=Tryd.underlying108
 a75:=Tryd.isAgg108
 z75:=Tryd.sizeOf108
 v75:=Tryd.zeroValue108
 t76:=Tryd.underlying109
 a76:=Tryd.isAgg109
 z76:=Tryd.sizeOf109
 v76:=Tryd.zeroValue109
 t127:=Tryd.underlying118
 a127:=Tryd.isAgg118
 z127:=Tryd.sizeOf118
 v127:=Tryd.zeroValue118
 t164:=Tryd.underlying123
 a164:=Tryd.isAgg123
 z164:=Tryd.sizeOf123
 v164:=Tryd.zeroValue123}
end Go.Proofs