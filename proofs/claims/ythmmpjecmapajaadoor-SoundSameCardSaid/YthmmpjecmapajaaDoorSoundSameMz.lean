/- Texts that SoundSame's proof stands on, part 26 of 48. No condition of its own. -/
import Derived.Test.YthmmpjecmapajaaDoorSoundSameMa
import Derived.Lib.Bytealg
namespace Go.Proofs.YthmmpjecmapajaaDoor
open Go.RowKit
def free (l : List (List UInt8)) : Prop := l.Pairwise fun a b => a.isPrefixOf b = false ∧ b.isPrefixOf a = false
def tk (rows : List (List UInt8)) (b : List UInt8) : Nat → Nat → Int × Nat
 | 0, _ => (3, 0)
 | k + 1, n => if b.length < n then (2, 0) else if b.take n ∈ rows then (0, n) else if rows.any (fun r => (b.take n).isPrefixOf r) = true then tk rows b k (n + 1) else (3, 0)
section
variable {α : Type} (f : α → List UInt8)
end
end Go.Proofs.YthmmpjecmapajaaDoor
