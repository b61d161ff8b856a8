/- Package runs: the events of levels, by its code. No condition. -/
import Derived.Test.YtologhgoojkpmaaDoorRuns
import Derived.RegionTactic
import Derived.Deep.RegionWith
import Derived.Deep.CutRange
import Derived.Deep.DeepCutAuto
namespace Go.Proofs.YtologhgoojkpmaaDoor
open Go.RowKit Go.Lib

theorem may_code (a : Int) (w : World) : Calls Tryd.prog 47 #[.int .i64 a] w fun e w' => e = .returned (.bool (a == 0 || a == 1)) ∧ w = w' := by
  cases h0 : (a == 0)
  all_goals
    go_enter Tryd.func47, Tryd.ntmps47
    go_wp2
    go_ret
    exact ⟨rfl, rfl⟩
/-- What Events gives. -/
def EvGives (f : Nat → Int) (a : Int) (w : World) (e : Ending) (w' : World) : Prop :=
  ∃ v, e = .returned (.tuple #[v, .int .i64 (evG f a).2]) ∧ w'.ownsRow w.heap.size 50 3 v (evG f a).1.length (cellsV (evG f a).1) ∧ Below w.heap.size w w'
theorem ev_none {f : Nat → Int} {a : Int} {w w' : World} {z : Int} (h : evG f a = ([], z)) (hb : Below w.heap.size w w') : EvGives f a w (.returned (.tuple #[.slice none 0 0, .int .i64 z])) w' := by
  unfold EvGives
  rw [h]
  exact ⟨_, rfl, World.ownsRow_nil _ _ _ _, hb⟩
theorem ev_some {f : Nat → Int} {a : Int} {w w' : World} {l : List Ev} {v : Value} (h : evG f a = (l, 0)) (ho : w'.ownsRow w.heap.size 50 3 v l.length (cellsV l)) (hb : Below w.heap.size w w') : EvGives f a w (.returned (.tuple #[v, .int .i64 0])) w' := by
  unfold EvGives
  rw [h]
  exact ⟨_, rfl, ho, hb⟩
theorem owns_lower {w : World} {b b' e size n : Nat} {v : Value} {xs : List Value} (h : w.ownsRow b e size v n xs) (hb : b' ≤ b) : w.ownsRow b' e size v n xs := by
  refine ⟨h.1, ?_⟩
  rcases h.2 with h | ⟨g, cap, cur, hv, hg, rest⟩
  · exact .inl h
  · exact .inr ⟨g, cap, cur, hv, Nat.le_trans hb hg, rest⟩
end Go.Proofs.YtologhgoojkpmaaDoor
