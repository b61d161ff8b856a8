/- Texts that SoundSame's proof stands on, part 36 of 48. No condition of its own. -/
import Derived.Test.YthmmpjecmapajaaDoorSoundSameMi
import Derived.Test.YthmmpjecmapajaaDoorSoundSameMbe
import Derived.Test.YthmmpjecmapajaaDoorSoundSameMbi
import Derived.StillTailTactics
import Derived.Deep.CutRange
import Derived.Deep.DeepCutAuto
import Derived.Maps.AppendAt
import Derived.Laws.OwnMore
import Derived.RegionTactic
import Derived.Deep.RegionWith
namespace Go.Proofs.YthmmpjecmapajaaDoor
open Go.RowKit Go.Lib
def encE (p : Nat) : List Value := [.bool (evT p).1, .int .i64 ((evT p).2.1 : Int), .int .i64 ((evT p).2.2 : Int)]
def OwnsP (O : Nat) (P : List Nat) (u v : Value) (wr : World) : Prop :=
 wr.ownsRow O 9 1 u P.length (strCells (P.map rowT)) ∧ wr.ownsRow O 55 3 v P.length (P.flatMap encE)
theorem OwnsP.below {O : Nat} {P : List Nat} {u v : Value} {w x : World} (h : OwnsP O P u v w) (hb : Below w.heap.size w x) : OwnsP O P u v x :=
 ⟨h.1.kept (below_grownBy hb none) (Classical.em _), h.2.kept (below_grownBy hb none) (Classical.em _)⟩
theorem OwnsP.lt {O : Nat} {P : List Nat} {u v : Value} {w : World} (h : OwnsP O P u v w) : (∀ k, u.ownBlock = some k → k < w.heap.size) ∧ ∀ k, v.ownBlock = some k → k < w.heap.size :=
 ⟨fun k e => (h.1.lt k e).2, fun k e => (h.2.lt k e).2⟩
end Go.Proofs.YthmmpjecmapajaaDoor
