/- No condition. -/
import Derived.Test.YtnamlooifcpoaaaGreatDoorScreensStillMd
import Derived.Deep.Slices
import Derived.Deep.MidRow
namespace Go.Proofs.YtnamlooifcpoaaaGreatDoor
open Go.ChangeShapes Go.WideShapes Go.ChangeAt Go.RowKit
theorem Yuz {w:World}{a:Addr}{v:Value}(h:w.cell? a=some v):a=⟨a.block,a.off,none⟩:=by
 obtain⟨b,o,s⟩:=a;cases s with
 |none=>rfl
 |some x=>unfold World.cell? at h;split at h <;> simp at h
section
variable {H:Type}{enc:TypeId×Value→H}{P:Program}
end
end Go.Proofs.YtnamlooifcpoaaaGreatDoor