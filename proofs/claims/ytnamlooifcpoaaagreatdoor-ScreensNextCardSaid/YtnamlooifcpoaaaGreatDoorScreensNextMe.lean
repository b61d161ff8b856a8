/- No condition. -/
import Derived.Test.YtnamlooifcpoaaaGreatDoorScreensNextMd
import Derived.Deep.Slices
import Derived.Deep.MidRow
namespace Go.Proofs.YtnamlooifcpoaaaGreatDoor
open Go.ChangeShapes Go.WideShapes Go.ChangeAt Go.RowKit
theorem Yj9 {w:World}{a:Addr}{v:Value}(h:w.cell? a=some v):a=⟨a.block,a.off,none⟩:=by
 obtain⟨b,o,s⟩:=a;cases s with
 |none=>rfl
 |some x=>unfold World.cell? at h;split at h <;> simp at h
theorem Ymg {w:World}{a:Addr}{v:Value}(h:w.cell? a=some v):a.block<w.heap.size:=World.block_lt_of_cell? w a h
def Yvc (W:World)(Q:List Value→Prop)(c:Nat)(p:Option Addr)(len:Nat):Prop:=
 len=0∨∃b o,p=some ⟨b,o,none⟩∧b<W.heap.size∧∀i,i<len→∃vs:List Value,vs.length=c∧Q vs∧∀(j:Nat) v,vs[j]? =some v→W.cell? ⟨b,o+i*c+j,none⟩=some v
section
variable {H:Type}{enc:TypeId×Value→H}{P:Program}
end
end Go.Proofs.YtnamlooifcpoaaaGreatDoor