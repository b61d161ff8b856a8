/- Texts that SheetoutOnce's proof stands on, part 14 of 52. No condition of its own. -/
import Derived.Test.YtgikochfffdpfaaGreatDoorSheetoutOnceMd
import Derived.Below
import Derived.WalkKit
namespace Go.Proofs.YtgikochfffdpfaaGreatDoor
open Go.RowKit
structure Ya3 (a b:Nat) (w w':World):Prop where
 os:w'.os=w.os
 tape:w'.tape=w.tape
 output:w'.output=w.output
 size:w.heap.size≤w'.heap.size
 block:∀k,k<w.heap.size→k≠a→k≠b→w'.heap[k]? = w.heap[k]?
theorem Ya3.refl (a b:Nat) (w:World):Ya3 a b w w:=⟨rfl,rfl,rfl,Nat.le_refl _,fun _ _ _ _=> rfl⟩
theorem Ya3.trans {a b:Nat} {x y z:World} (h:Ya3 a b x y) (k:Ya3 a b y z):Ya3 a b x z:=
 ⟨k.os.trans h.os,k.tape.trans h.tape,k.output.trans h.output,Nat.le_trans h.size k.size,fun i hi h1 h2=> (k.block i (Nat.lt_of_lt_of_le hi h.size) h1 h2).trans (h.block i hi h1 h2)⟩
theorem Ya3.grown {a b c:Nat} {x y:World} (h:x.grownBy y (some c)) (hc:c=a∨c=b):Ya3 a b x y:=
 ⟨h.os,h.tape,h.output,h.size,fun i hi h1 h2=> h.block i hi (fun e=> by injection e with e;omega)⟩
theorem Ya3.set {a b:Nat} {x:World} {p:Addr} (v:Value) (hc:p.block=a∨p.block=b):Ya3 a b x (x.setCell p v):=
 ⟨rfl,rfl,rfl,by simp [World.setCell],fun i _ h1 h2=> Below.heap_setCell _ _ _ _ (by omega)⟩
theorem Ya3.under {a b N:Nat} {x y:World} (h:Ya3 a b x y) (hz:N≤x.heap.size) (ha:N≤a) (hb:N≤b):Below N x y:=
 ⟨h.os,h.tape,h.output,h.size,fun k hk=> h.block k (by omega) (by omega) (by omega)⟩
end Go.Proofs.YtgikochfffdpfaaGreatDoor