/- New frames of the document's: all samples one number. No condition. -/
import Derived.Test.YtnpmllbdpmkliaaPnew
import Derived.Laws.OwnMore
namespace Go.Proofs.Ytnpmllbdpmkliaa
open Go.RowKit Go.Lib

theorem make_bytes (n : Nat) (w : World) (hn : n ≤ 1073741824) : ∃ w', (Instr.makeSlice 26 (.int .i64 (n : Int)) (.int .i64 (n : Int))).run Try.prog w = .ok (.slice (some ⟨w.heap.size, 0, none⟩) n n) w' ∧
    OwnPl w' (.slice (some ⟨w.heap.size, 0, none⟩) n n) w.heap.size n (fun _ => 0) ∧ w.grownBy w' none := by
  obtain ⟨i, hi, hz, hs, hb⟩ := info_parts (show (Try.prog.info? 5).map (fun i => (i.zero, i.size, i.bytes)) = some (some (Value.int IntKind.u8 0), 1, 1) by kernel_rfl)
  obtain ⟨w', h1, h2, h3⟩ := run_make_full (P := Try.prog) w w.heap.size 26 5 i (.int .u8 0) 1 Try.underlying26 hi hz hs .i64 .i64 n (by rw [hb]; omega) (by unfold maxLen; omega) (Nat.le_refl _)
  refine ⟨w', h1, ⟨n, rfl, Nat.le_refl _, fun j hj => ?_⟩, h3⟩
  rcases h2.2 with ⟨h4, _⟩ | ⟨g, cap, cur, h4, _, hh, _, _, _, ht⟩
  · cases h4
  · injection h4 with h4 _ h5
    injection h4 with h4
    injection h4 with h4
    subst h4
    rw [Nat.mul_one, show (Value.int IntKind.u8 0).cells = #[.int .u8 0] from rfl, toList_madeCells_one] at ht
    refine ⟨?_, frozen_of_row w' _ j _ _ hh, Int.le_refl 0, by show (0 : Int) ≤ 255; omega⟩
    rw [cell_of_row w' _ j _ _ _ hh]
    have e := congrArg (fun l => l[j]?) ht
    simpa [List.getElem?_take, List.getElem?_replicate, hj] using e
/-- What the document's New gives of a format that there is. -/
def NewdGives (k : Int) (f : Nat → Nat → Int) (w : World) (e : Ending) (w' : World) : Prop :=
  ∃ v g, e = .returned (.agg (frA k v)) ∧ OwnFr w' w.heap.size v g (siz k) f ∧ Below w.heap.size w w'
end Go.Proofs.Ytnpmllbdpmkliaa
