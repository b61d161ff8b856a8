/- Texts that SheetheadPuts's proof stands on, part 10 of 23. No condition of its own. -/
import Derived.Test.YtgbnpmpkfkijdaaSheetheadPutsMa
import Derived.Test.YtgbnpmpkfkijdaaSheetheadPutsMd
import Derived.Test.YtgbnpmpkfkijdaaSheetheadPutsMg
import Derived.Test.YtgbnpmpkfkijdaaSheetheadPutsMi
import Derived.WalkMore
import Derived.Test.YtgbnpmpkfkijdaaChecked
import Derived.Lib.Hide
import Derived.Below
import Derived.WalkKit
import Derived.OwnWalk
import Derived.IntWalk
import Derived.Laws.ResultCell
import Derived.Laws.Rows
import Derived.Laws.OwnMore
import Derived.Deep.AppendLies
import Derived.Maps.AppendAt
import Derived.ChangeKeysEq
namespace Go.Proofs.Ytgbnpmpkfkijdaa
open Go.RowKit Go.Lib Go.ChangeShapes Go.WideShapes Go.ChangeAt
theorem int_info : ∃ i, Try.prog.info? 3 = some i := by
 cases h : Try.prog.info? 3 with
 | some i => exact ⟨i, rfl⟩
 | none =>
  have h2 : (Try.prog.info? 3).isSome = true := by kernel_rfl
  rw [h] at h2
  cases h2
theorem int_cells : Try.prog.cellsOf 3 = 1 := by kernel_rfl
theorem int_plain : Try.prog.plainKey 3 = true := by kernel_rfl
theorem wp_store_arr {P : Program} {ops : Array Oper} {rest : List Oper} {op : Oper} {a : Act} {w : World} {Q : Exit → Act → World → Prop} (hgd : op.guard = none) (ty : TypeId) (x y : Operand) (ho : op.op = .store ty x y)
  (b : Nat) (Z old : Array Value) (hx : a.eval x = .pointer (some ⟨b, 0, none⟩)) (hy : a.eval y = .agg Z) (T : TypeId) (hg : w.heap[b]? = some (.cells old T (0, 0))) (hi : (P.info? ty).map (·.size) = some Z.size) (hs : old.size = Z.size) (h1 : Z.all (·.oneCell') = true)
  (h : ∀ w', w'.heap[b]? = some (.cells Z T (0, 0)) → w.grownBy w' (some b) → wpList P ops Q rest (a.put op.dst undef) w') : wpList P ops Q (op :: rest) a w :=
 wpList_store_row hgd ty x y ho b Z hx hy T old hg hi hs h1 (h _ (setRow_heap w b old Z T (0, 0) hg) ⟨rfl, rfl, rfl, by simp, fun k _ hk => setRow_other w b k _ (by intro e; exact hk (by rw [e]))⟩)
theorem wpList_wanted_load {P : Program} {ops : Array Oper} {rest : List Oper} {o : Oper} {a : Act} {w : World} {Q : Exit → Act → World → Prop} (hw : Region.wanted o (yielded ops a.tmps) = true) (ty : TypeId) (x : Operand) (ho : o.op = .load ty x)
  (g : Nat) (hx : a.eval x = .pointer (some ⟨g, 0, none⟩)) (t : TypeId) (cs : Array Value) (fr : Nat × Nat) (d : TypeDesc) (hg : w.heap[g]? = some (.cells cs t fr))
  (hu : P.underlying ty = some d) (hd : (match d with | .struct _ | .array _ _ => true | _ => false) = true) (hi : (P.info? ty).map (·.size) = some cs.size)
  (h : wpList P ops Q rest (a.put o.dst (.agg cs)) w) : wpList P ops Q (o :: rest) a w := by
 unfold wpList
 rw [if_pos hw]
 exact .inl (wp_load_row ty x ho g hx t cs fr d hg hu hd hi h)
section
variable {H : Type} {enc : TypeId × Value → H} {P : Program}
end
end Go.Proofs.Ytgbnpmpkfkijdaa
