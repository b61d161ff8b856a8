/- Texts that SheetinTakes's proof stands on, part 13 of 52. No condition of its own. -/
import Derived.Test.YtpgdngijmihafaaGreatDoorSheetinTakesMd
import Derived.Below
import Derived.WalkKit
namespace Go.Proofs.YtpgdngijmihafaaGreatDoor
open Go.RowKit
structure Yaw (a b:Nat) (w w':World):Prop where
 os:w'.os=w.os
 tape:w'.tape=w.tape
 output:w'.output=w.output
 size:w.heap.size≤w'.heap.size
 block:∀k,k<w.heap.size→k≠a→k≠b→w'.heap[k]? = w.heap[k]?
theorem Yaw.refl (a b:Nat) (w:World):Yaw a b w w:=⟨rfl,rfl,rfl,Nat.le_refl _,fun _ _ _ _=> rfl⟩
theorem Yaw.trans {a b:Nat} {x y z:World} (h:Yaw a b x y) (k:Yaw a b y z):Yaw a b x z:=
 ⟨k.os.trans h.os,k.tape.trans h.tape,k.output.trans h.output,Nat.le_trans h.size k.size,fun i hi h1 h2=> (k.block i (Nat.lt_of_lt_of_le hi h.size) h1 h2).trans (h.block i hi h1 h2)⟩
theorem Yaw.grown {a b c:Nat} {x y:World} (h:x.grownBy y (some c)) (hc:c=a∨c=b):Yaw a b x y:=
 ⟨h.os,h.tape,h.output,h.size,fun i hi h1 h2=> h.block i hi (fun e=> by injection e with e;omega)⟩
theorem Yaw.set {a b:Nat} {x:World} {p:Addr} (v:Value) (hc:p.block=a∨p.block=b):Yaw a b x (x.setCell p v):=
 ⟨rfl,rfl,rfl,by simp [World.setCell],fun i _ h1 h2=> Below.heap_setCell _ _ _ _ (by omega)⟩
theorem Yaw.under {a b N:Nat} {x y:World} (h:Yaw a b x y) (hz:N≤x.heap.size) (ha:N≤a) (hb:N≤b):Below N x y:=
 ⟨h.os,h.tape,h.output,h.size,fun k hk=> h.block k (by omega) (by omega) (by omega)⟩
theorem Yaw.below {a b:Nat} {w x:World} (h:Below w.heap.size w x):Yaw a b w x:=⟨h.os,h.tape,h.output,h.size,fun k hk _ _=> h.block k hk⟩
end Go.Proofs.YtpgdngijmihafaaGreatDoor