/- Texts that SheetheadPuts's proof stands on, part 11 of 23. No condition of its own. -/
import Derived.Test.YtgbnpmpkfkijdaaSheetheadPutsMj
import Derived.Deep.WholeRow
namespace Go.Proofs.Ytgbnpmpkfkijdaa
open Go.RowKit Go.Lib Go.ChangeShapes Go.WideShapes Go.ChangeAt
section
variable {P : Program} {T E : TypeId} {n : Nat}
end
theorem wp_store_fresh {P : Program} {ops : Array Oper} {rest : List Oper} {op : Oper} {a : Act} {w : World} {Q : Exit → Act → World → Prop} (hgd : op.guard = none) (ty : TypeId) (x y : Operand) (ho : op.op = .store ty x y)
  (Z old : Array Value) (T : TypeId) (hx : a.eval x = .pointer (some ⟨w.heap.size, 0, none⟩)) (hy : a.eval y = .agg Z) (hi : (P.info? ty).map (·.size) = some Z.size) (hs : old.size = Z.size) (h1 : Z.all (·.oneCell') = true)
  (h : wpList P ops Q rest (a.put op.dst undef) (w.alloc (.cells Z T (0, 0)))) : wpList P ops Q (op :: rest) a (w.alloc (.cells old T (0, 0))) := by
 refine wpList_store_row hgd ty x y ho w.heap.size Z hx hy T old (heap_alloc_last w _) hi hs h1 ?_
 rw [World.setRow_alloc_new]
 exact h
end Go.Proofs.Ytgbnpmpkfkijdaa
