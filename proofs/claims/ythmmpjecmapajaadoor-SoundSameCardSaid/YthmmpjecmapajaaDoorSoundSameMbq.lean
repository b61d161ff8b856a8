/- Texts that SoundSame's proof stands on, part 43 of 48. No condition of its own. -/
import Derived.Shelf.Strings.OnBuilder
import Derived.Test.YthmmpjecmapajaaDoorProg
namespace Go.Proofs
open Go.Shelf
def Tryd.lJoin_ren : Go.Shelf.Ren := ⟨fun | 156 => 85 | 165 => 89 | 166 => 90 | 169 => 91 | 240 => 96 | 241 => 97 | 276 => 99 | 277 => 100 | n => n, fun | 31 => 94 | 9 => 9 | 3 => 3 | 4 => 4 | 0 => 0 | 20 => 20 | 72 => 119 | 76 => 123 | 70 => 117 | 37 => 99 | 75 => 122 | 127 => 128 | 164 => 133 | 5 => 5 | 80 => 125 | n => n, fun | n => n⟩
theorem Tryd.lJoin : Go.Proofs.Lays.n156 Tryd.prog Tryd.lJoin_ren := {
 mixed := by kernel_rfl
 f156 := Tryd.func85.trans (congrArg some (by kernel_rfl))
 f165 := Tryd.func89.trans (congrArg some (by kernel_rfl))
 f166 := Tryd.func90.trans (congrArg some (by kernel_rfl))
 f169 := Tryd.func91.trans (congrArg some (by kernel_rfl))
 f240 := Tryd.func96.trans (congrArg some (by kernel_rfl))
 f241 := Tryd.func97.trans (congrArg some (by kernel_rfl))
 f276 := Tryd.func99.trans (congrArg some (by kernel_rfl))
 f277 := Tryd.func100.trans (congrArg some (by kernel_rfl))
 t0 := Tryd.underlying0
 a0 := Tryd.isAgg0
 z0 := Tryd.sizeOf0
 v0 := Tryd.zeroValue0
 t3 := Tryd.underlying3
 a3 := Tryd.isAgg3
 z3 := Tryd.sizeOf3
 v3 := Tryd.zeroValue3
 t4 := Tryd.underlying4
 a4 := Tryd.isAgg4
 z4 := Tryd.sizeOf4
 v4 := Tryd.zeroValue4
 t9 := Tryd.underlying9
 a9 := Tryd.isAgg9
 z9 := Tryd.sizeOf9
 v9 := Tryd.zeroValue9
 t20 := Tryd.underlying20
 a20 := Tryd.isAgg20
 z20 := Tryd.sizeOf20
 v20 := Tryd.zeroValue20
 t31 := Tryd.underlying94
 a31 := Tryd.isAgg94
 z31 := Tryd.sizeOf94
 v31 := Tryd.zeroValue94
 t37 := Tryd.underlying99
 a37 := Tryd.isAgg99
 z37 := Tryd.sizeOf99
 v37 := Tryd.zeroValue99
 t70 := Tryd.underlying117
 a70 := Tryd.isAgg117
 z70 := Tryd.sizeOf117
 v70 := Tryd.zeroValue117
 t72 := Tryd.underlying119
 a72 := Tryd.isAgg119
 z72 := Tryd.sizeOf119
 v72 := Tryd.zeroValue119
 t75 := Tryd.underlying122
 a75 := Tryd.isAgg122
 z75 := Tryd.sizeOf122
 v75 := Tryd.zeroValue122
 t76 := Tryd.underlying123
 a76 := Tryd.isAgg123
 z76 := Tryd.sizeOf123
 v76 := Tryd.zeroValue123
 t127 := Tryd.underlying128
 a127 := Tryd.isAgg128
 z127 := Tryd.sizeOf128
 v127 := Tryd.zeroValue128
 t164 := Tryd.underlying133
 a164 := Tryd.isAgg133
 z164 := Tryd.sizeOf133
 v164 := Tryd.zeroValue133 }
end Go.Proofs
