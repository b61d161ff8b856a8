/- No condition. -/
import Derived.Test.YtnamlooifcpoaaaGreatDoorScreensStillMb
import Derived.Lib.Bytealg
namespace Go.Proofs.YtnamlooifcpoaaaGreatDoor
open Go.RowKit
def tk (rows:List (List UInt8))(b:List UInt8):Nat→Nat→Int×Nat
 |0,_=>(3,0)
 |k+1,n=>if b.length<n then (2,0) else if b.take n∈rows then (0,n) else if rows.any (fun r=>(b.take n).isPrefixOf r)=true then tk rows b k (n+1) else (3,0)
section
variable {α:Type}(f:α→List UInt8)
end
end Go.Proofs.YtnamlooifcpoaaaGreatDoor