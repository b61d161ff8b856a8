/- Texts that StepsFloor's proof stands on, part 4 of 10. No condition of its own. -/
import Derived.RegionTactic
import Derived.KernelRfl
import Derived.StillTailTactics
import Derived.Deep.MidRow
import Derived.Laws.CopyRow
import Derived.Below
import Derived.Laws.AppendOwn
import Derived.OwnWalk
namespace Go.Proofs.YtoecmledmbafbaaDoor
open Go.RowKit
theorem part_cells {w : World} {b o : Nat} {cs : List Value} {T : TypeId} {x : Value} (h : w.heap[b]? = some (.cells cs.toArray T (0, 0))) (hx : cs[o]? = some x) : w.cell? ⟨b, o, none⟩ = some x := by
 rw [cell_of_row w b o _ _ _ h]; simpa using hx
theorem part_free {w : World} {b o : Nat} {cs : List Value} {T : TypeId} (h : w.heap[b]? = some (.cells cs.toArray T (0, 0))) : w.frozen? ⟨b, o, none⟩ = false := frozen_of_row w b o _ T h
theorem part_set {w : World} {b o : Nat} {cs : List Value} {T : TypeId} (x : Value) (h : w.heap[b]? = some (.cells cs.toArray T (0, 0))) : (w.setCell ⟨b, o, none⟩ x).heap[b]? = some (.cells (cs.set o x).toArray T (0, 0)) := by
 rw [heap_setCell_same w b o _ T x h]; simp
theorem grown_trans {a b c : World} {row : Option Nat} (h : a.grownBy b row) (k : b.grownBy c row) : a.grownBy c row :=
 ⟨k.os.trans h.os, k.tape.trans h.tape, k.output.trans h.output, Nat.le_trans h.size k.size, fun i hi hr => (k.block i (Nat.lt_of_lt_of_le hi h.size) hr).trans (h.block i hi hr)⟩
theorem grownBy_setCell (w : World) (a : Addr) (v : Value) : w.grownBy (w.setCell a v) (some a.block) :=
 ⟨rfl, rfl, rfl, by simp [World.setCell], fun k _ hk => heap_setCell_other w a k v (by intro e; exact hk (by rw [e]))⟩
end Go.Proofs.YtoecmledmbafbaaDoor
