/- StripsWrites, 27. No condition. -/
import Derived.Test.YtjjmalchelniiaaGreatDoorStripsWritesMs
import Derived.Shelf.SlSortCmp.Insertion
namespace Go.Proofs.YtjjmalchelniiaaGreatDoor
open Go.RowKit Go.Sort
theorem ZK {α:Type}(f:α->List UInt8):SWO (ltOf fun x y:α=>Lib.compareBytes (f x) (f y)) where
 irrefl x:=by unfold ltOf;rw[Pp,tV];rfl
 trans x y z h1 h2:=by
  unfold ltOf at *;rw[Pp] at *;cases h3:leL (f z) (f x) with
  |false=>rfl
  |true=>
   cases hyx:leL (f y) (f x) with
   |true=>rw[hyx] at h1;cases h1
   |false=>
    have c:=(XY (f x) (f y)).resolve_right (by rw[hyx];decide);rw[St h3 c] at h2;cases h2
 ntrans x y z h1 h2:=by
  unfold ltOf at *;rw[Pp] at *;have a:leL (f y) (f x)=true:=by simpa using h1
  have b:leL (f z) (f y)=true:=by simpa using h2
  rw[St b a];rfl
end Go.Proofs.YtjjmalchelniiaaGreatDoor