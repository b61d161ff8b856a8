/- Texts that CelloutBack's proof stands on, part 16 of 45. No condition of its own. -/
import Derived.Test.YtekjgcchnmnplaaGreatDoorCelloutBackMd
import Derived.Laws.ResultCell
import Derived.Laws.Rows
import Derived.StillTailTactics
namespace Go.Proofs.YtekjgcchnmnplaaGreatDoor
open Go.RowKit
theorem results_pair {P : Program} {fn : Func} {p u : Tmp} {ty : TypeId} (h : fn.results = #[.cell p ty, .tmp u]) (tmps : Array Value) (w : World) (g : Nat) (t : TypeId) (cs : Array Value) (fr : Nat × Nat) (d : TypeDesc)
  (hp : tmps.getD p undef = .pointer (some ⟨g, 0, none⟩)) (hg : w.heap[g]? = some (.cells cs t fr))
  (hu : P.underlying ty = some d) (hd : (match d with | .struct _ | .array _ _ => true | _ => false) = true) (hi : (P.info? ty).map (·.size) = some cs.size) :
  (results fn tmps).run P w = .ok (.tuple #[.agg cs, tmps.getD u undef]) w := by
 rw [results_cell_tmp h, hp]
 simp [asAddr, Result.andThen, run_loadVar_row w g t ty cs fr d hg hu hd hi]
theorem grown_set {w x : World} {row : Option Nat} {a : Addr} {v : Value} (h : w.grownBy x row) (hB : w.heap.size ≤ a.block) : w.grownBy (x.setCell a v) row := by
 have g := grownBy_setCell x a v
 refine ⟨g.os.trans h.os, g.tape.trans h.tape, g.output.trans h.output, Nat.le_trans h.size g.size, fun k hk hn => ?_⟩
 exact (g.block k (Nat.lt_of_lt_of_le hk h.size) (by intro e; injection e with e; omega)).trans (h.block k hk hn)
theorem heap_set {x : World} {B : Nat} {a : Addr} {v : Value} {o : Obj} (h : x.heap[B]? = some o) (hne : B ≠ a.block) : (x.setCell a v).heap[B]? = some o :=
 ((grownBy_setCell x a v).block B (Array.getElem?_eq_some_iff.1 h).1 (by simpa using hne)).trans h
theorem heap_keep {x : World} {B : Nat} {o ob : Obj} (h : x.heap[B]? = some o) : (x.alloc ob).heap[B]? = some o :=
 (((Below.refl _ x).alloc (Nat.le_refl _) ob).block B (Array.getElem?_eq_some_iff.1 h).1).trans h
end Go.Proofs.YtekjgcchnmnplaaGreatDoor
