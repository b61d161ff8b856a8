/- Texts that SheetheadPuts's proof stands on, part 16 of 23. No condition of its own. -/
import Derived.Test.YtgbnpmpkfkijdaaSheetheadPutsMd
import Derived.Below
import Derived.WalkKit
namespace Go.Proofs.Ytgbnpmpkfkijdaa
open Go.RowKit
structure Moved (a b : Nat) (w w' : World) : Prop where
 os : w'.os = w.os
 tape : w'.tape = w.tape
 output : w'.output = w.output
 size : w.heap.size ≤ w'.heap.size
 block : ∀ k, k < w.heap.size → k ≠ a → k ≠ b → w'.heap[k]? = w.heap[k]?
theorem Moved.refl (a b : Nat) (w : World) : Moved a b w w := ⟨rfl, rfl, rfl, Nat.le_refl _, fun _ _ _ _ => rfl⟩
theorem Moved.trans {a b : Nat} {x y z : World} (h : Moved a b x y) (k : Moved a b y z) : Moved a b x z :=
 ⟨k.os.trans h.os, k.tape.trans h.tape, k.output.trans h.output, Nat.le_trans h.size k.size, fun i hi h1 h2 => (k.block i (Nat.lt_of_lt_of_le hi h.size) h1 h2).trans (h.block i hi h1 h2)⟩
theorem Moved.grown {a b c : Nat} {x y : World} (h : x.grownBy y (some c)) (hc : c = a ∨ c = b) : Moved a b x y :=
 ⟨h.os, h.tape, h.output, h.size, fun i hi h1 h2 => h.block i hi (fun e => by injection e with e; omega)⟩
theorem Moved.set {a b : Nat} {x : World} {p : Addr} (v : Value) (hc : p.block = a ∨ p.block = b) : Moved a b x (x.setCell p v) :=
 ⟨rfl, rfl, rfl, by simp [World.setCell], fun i _ h1 h2 => Below.heap_setCell _ _ _ _ (by omega)⟩
theorem Moved.below {a b : Nat} {w x : World} (h : Below w.heap.size w x) : Moved a b w x := ⟨h.os, h.tape, h.output, h.size, fun k hk _ _ => h.block k hk⟩
end Go.Proofs.Ytgbnpmpkfkijdaa
