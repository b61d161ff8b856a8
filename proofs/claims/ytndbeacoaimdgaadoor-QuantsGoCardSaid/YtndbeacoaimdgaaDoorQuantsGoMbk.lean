/- No condition. -/
import Derived.Shelf.Strings.OnBuilder
import Derived.Test.YtndbeacoaimdgaaDoorProg
namespace Go.Proofs
open Go.Shelf
def Tryd.lJoin_ren:Go.Shelf.Ren:=⟨fun|156=>86|165=>90|166=>91|169=>92|240=>97|241=>98|276=>100|277=>101|n=>n,fun|31=>74|9=>9|3=>3|4=>4|0=>0|20=>20|72=>121|76=>125|70=>119|37=>102|75=>124|127=>130|164=>135|5=>5|80=>127|n=>n,fun|n=>n⟩
theorem Tryd.lJoin:Go.Proofs.Lays.n156 Tryd.prog Tryd.lJoin_ren:={
 mixed:=by kernel_rfl
 f156:=Tryd.func86.trans (congrArg some (by kernel_rfl))
 f165:=Tryd.func90.trans (congrArg some (by kernel_rfl))
 f166:=Tryd.func91.trans (congrArg some (by kernel_rfl))
 f169:=Tryd.func92.trans (congrArg some (by kernel_rfl))
 f240:=Tryd.func97.trans (congrArg some (by kernel_rfl))
 f241:=Tryd.func98.trans (congrArg some (by kernel_rfl))
 f276:=Tryd.func100.trans (congrArg some (by kernel_rfl))
 f277:=Tryd.func101.trans (congrArg some (by kernel_rfl))
 t0:=Tryd.underlying0
 a0:=Tryd.isAgg0
 z0:=Tryd.sizeOf0
 v0:=Tryd.zeroValue0
 t3:=Tryd.underlying3
 a3:=Tryd.isAgg3
 z3:=Tryd.sizeOf3
 v3:=Tryd.zeroValue3
 t4:=Tryd.underlying4
 a4:=Tryd.isAgg4
 z4:=Tryd.sizeOf4
 v4:=Tryd.zeroValue4
 t9:=Tryd.underlying9
 a9:=Tryd.isAgg9
 z9:=Tryd.sizeOf9
 v9:=Tryd.zeroValue9
 t20:=Tryd.underlying20
 a20:=Tryd.isAgg20
 z20:=Tryd.sizeOf20
 v20:=Tryd.zeroValue20
 t31:=Tryd.underlying74
 a31:=Tryd.isAgg74
 z31:=Tryd.sizeOf74
 v31:=Tryd.zeroValue74
 t37:=Tryd.underlying102
 a37:=Tryd.isAgg102
 z37:=Tryd.sizeOf102
 v37:=Tryd.zeroValue102
 t70:=Tryd.underlying119
 a70:=Tryd.isAgg119
 z70:=Tryd.sizeOf119
 v70:=Tryd.zeroValue119
 t72:=Tryd.underlying121
 a72:=Tryd.isAgg121
 z72:=Tryd.sizeOf121
 v72:=Tryd.zeroValue121
 t75:=Tryd.underlying124
 a75:=Tryd.isAgg124
 z75:=Tryd.sizeOf124
 v75:=Tryd.zeroValue124
 t76:=Tryd.underlying125
 a76:=Tryd.isAgg125
 z76:=Tryd.sizeOf125
 v76:=Tryd.zeroValue125
 t127:=Tryd.underlying130
 a127:=Tryd.isAgg130
 z127:=Tryd.sizeOf130
 v127:=Tryd.zeroValue130
 t164:=Tryd.underlying135
 a164:=Tryd.isAgg135
 z164:=Tryd.sizeOf135
 v164:=Tryd.zeroValue135}
end Go.Proofs