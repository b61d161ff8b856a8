/- No condition. -/
import Derived.Calls
namespace Go.Proofs.YtnamlooifcpoaaaGreatDoor
open Go
theorem Yaa:(∀(a:Act) (d:Nat) (v:Value),a.put (some d) v = {a with tmps:=a.tmps.setIfInBounds d v})∧(∀(a:Act) (v:Value),a.put none v=a)∧(∀(l:List Value) (i:Nat) (v:Value),l.toArray.setIfInBounds i v=(l.set i v).toArray)∧(∀(x v:Value) (l:List Value),(x::l).set 0 v=v::l)∧∀(x v:Value) (l:List Value) (i:Nat),(x::l).set (i+1) v=x::l.set i v:=
 ⟨fun _ _ _=>rfl,fun _ _=>rfl,fun _ _ _=>List.setIfInBounds_toArray ..,fun _ _ _=>rfl,fun _ _ _ _=>rfl⟩
end Go.Proofs.YtnamlooifcpoaaaGreatDoor