/- Texts that SheetheadPuts's proof stands on, part 7 of 23. No condition of its own. -/
import Derived.Test.YtgbnpmpkfkijdaaSheetheadPutsMe
import Derived.Deep.Slices
import Derived.Deep.MidRow
namespace Go.Proofs.Ytgbnpmpkfkijdaa
open Go.ChangeShapes Go.WideShapes Go.ChangeAt Go.RowKit
theorem spot_none {w : World} {a : Addr} {v : Value} (h : w.cell? a = some v) : a = ⟨a.block, a.off, none⟩ := by
 obtain ⟨b, o, s⟩ := a
 cases s with
 | none => rfl
 | some x => unfold World.cell? at h; split at h <;> simp at h
section
variable {H : Type} {enc : TypeId × Value → H} {P : Program}
end
end Go.Proofs.Ytgbnpmpkfkijdaa
