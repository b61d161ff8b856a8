/- Texts that StepsNext's proof stands on, part 2 of 10. No condition of its own. -/
import Derived.Below
import Derived.OwnWalk
import Derived.Lib.AppendStr
import Derived.Laws.IdiomStrings
import Derived.Laws.BytesArg
namespace Go.Proofs.YtoecmledmbafbaaDoor
open Go.RowKit
def cellsOfBytes (l : List UInt8) : List Value := l.map fun b => Value.int .u8 (b.toNat : Int)
def OwnBytes (w : World) (base : Nat) (e : TypeId) (v : Value) (l : List UInt8) : Prop := w.ownsRow base e 1 v l.length (cellsOfBytes l)
theorem OwnBytes.alloc {w : World} {base : Nat} {e : TypeId} {v : Value} {l : List UInt8} (h : OwnBytes w base e v l) (o : Obj) : OwnBytes (w.alloc o) base e v l := World.ownsRow.alloc h o
theorem OwnBytes.drew {w : World} {base : Nat} {e : TypeId} {v : Value} {l : List UInt8} (h : OwnBytes w base e v l) : OwnBytes w.drew base e v l := h
section
variable {P : Program}
end
end Go.Proofs.YtoecmledmbafbaaDoor
