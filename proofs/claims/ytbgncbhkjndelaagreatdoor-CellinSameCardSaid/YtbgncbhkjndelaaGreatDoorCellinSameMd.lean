/- Texts that CellinSame's proof stands on, part 4 of 35. No condition of its own. -/
import Derived.RegionTactic
import Derived.KernelRfl
import Derived.StillTailTactics
import Derived.Deep.MidRow
import Derived.Laws.CopyRow
import Derived.Below
import Derived.Laws.AppendOwn
import Derived.OwnWalk
namespace Go.Proofs.YtbgncbhkjndelaaGreatDoor
open Go.RowKit
theorem exec_load {P : Program} {w : World} {ev : Operand → Value} {o : Oper} {ty : TypeId} {x : Operand} {v : Value} {ad : Addr} (ho : o.op = .load ty x) (hx : ev x = .pointer (some ad)) (h : (loadVar ty ad).run P w = .ok v w) :
  (execOp ev o).run P w = .ok (.value v) w := by
 unfold execOp
 simp only [ho, hx, Instr.loadAt, Instr.sureAddr, Sem.run_bind, Sem.run_pure, Result.andThen_ok, h]
theorem part_cells {w : World} {b o : Nat} {cs : List Value} {T : TypeId} {x : Value} (h : w.heap[b]? = some (.cells cs.toArray T (0, 0))) (hx : cs[o]? = some x) : w.cell? ⟨b, o, none⟩ = some x := by
 rw [cell_of_row w b o _ _ _ h]; simpa using hx
theorem part_free {w : World} {b o : Nat} {cs : List Value} {T : TypeId} (h : w.heap[b]? = some (.cells cs.toArray T (0, 0))) : w.frozen? ⟨b, o, none⟩ = false := frozen_of_row w b o _ T h
theorem part_set {w : World} {b o : Nat} {cs : List Value} {T : TypeId} (x : Value) (h : w.heap[b]? = some (.cells cs.toArray T (0, 0))) : (w.setCell ⟨b, o, none⟩ x).heap[b]? = some (.cells (cs.set o x).toArray T (0, 0)) := by
 rw [heap_setCell_same w b o _ T x h]; simp
theorem grown_trans {a b c : World} {row : Option Nat} (h : a.grownBy b row) (k : b.grownBy c row) : a.grownBy c row :=
 ⟨k.os.trans h.os, k.tape.trans h.tape, k.output.trans h.output, Nat.le_trans h.size k.size, fun i hi hr => (k.block i (Nat.lt_of_lt_of_le hi h.size) hr).trans (h.block i hi hr)⟩
theorem grownBy_setCell (w : World) (a : Addr) (v : Value) : w.grownBy (w.setCell a v) (some a.block) :=
 ⟨rfl, rfl, rfl, by simp [World.setCell], fun k _ hk => heap_setCell_other w a k v (by intro e; exact hk (by rw [e]))⟩
theorem grownBy_drew (w : World) (row : Option Nat) : w.grownBy w.drew row := ⟨rfl, rfl, rfl, Nat.le_refl _, fun _ _ _ => rfl⟩
theorem below_grownBy {w x : World} (h : Below w.heap.size w x) (row : Option Nat) : w.grownBy x row := ⟨h.os, h.tape, h.output, h.size, fun k hk _ => h.block k hk⟩
theorem owns_fresh {w : World} {base e size n : Nat} {v : Value} {xs : List Value} (h : w.ownsRow base e size v n xs) : ∀ k, v.ownBlock = some k → base ≤ k := by
 intro k hk
 rcases h.2 with ⟨rfl, _⟩ | ⟨g, cap, cur, rfl, hg, _⟩
 ·cases hk
 ·cases hk; exact hg
end Go.Proofs.YtbgncbhkjndelaaGreatDoor
