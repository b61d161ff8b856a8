/- Texts that CellinSame's proof stands on, part 2 of 35. No condition of its own. -/
import Derived.Below
import Derived.OwnWalk
import Derived.Lib.AppendStr
import Derived.Laws.IdiomStrings
import Derived.Laws.BytesArg
namespace Go.Proofs.YtbgncbhkjndelaaGreatDoor
open Go.RowKit
def cellsOfBytes (l : List UInt8) : List Value := l.map fun b => Value.int .u8 (b.toNat : Int)
theorem cellsOfBytes_append (l m : List UInt8) : cellsOfBytes (l ++ m) = cellsOfBytes l ++ cellsOfBytes m := by simp [cellsOfBytes]
def OwnBytes (w : World) (base : Nat) (e : TypeId) (v : Value) (l : List UInt8) : Prop := w.ownsRow base e 1 v l.length (cellsOfBytes l)
theorem OwnBytes.nil (w : World) (base : Nat) (e : TypeId) : OwnBytes w base e (.slice none 0 0) [] := World.ownsRow_nil _ _ _ _
theorem OwnBytes.grow {w : World} {base : Nat} {e : TypeId} {v : Value} {l m : List UInt8} {n : Nat} {xs : List Value} (hn : n = l.length + m.length) (hx : xs = cellsOfBytes l ++ cellsOfBytes m)
  (h : w.ownsRow base e 1 v n xs) : OwnBytes w base e v (l ++ m) := by
 unfold OwnBytes
 rw [cellsOfBytes_append, List.length_append, ← hx, ← hn]
 exact h
theorem OwnBytes.alloc {w : World} {base : Nat} {e : TypeId} {v : Value} {l : List UInt8} (h : OwnBytes w base e v l) (o : Obj) : OwnBytes (w.alloc o) base e v l := World.ownsRow.alloc h o
theorem OwnBytes.drew {w : World} {base : Nat} {e : TypeId} {v : Value} {l : List UInt8} (h : OwnBytes w base e v l) : OwnBytes w.drew base e v l := h
section
variable {P : Program}
end
end Go.Proofs.YtbgncbhkjndelaaGreatDoor
