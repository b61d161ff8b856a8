/- No condition. -/
import Derived.Test.YtjjmalchelniiaaGreatDoorZpr
import Derived.Shelf.SlSortCmp.Insertion
namespace Go.Proofs.YtjjmalchelniiaaGreatDoor
open Go.RowKit Go.Sort
theorem XQ {α:Type}(f:α->List UInt8):SWO (ltOf fun x y:α=>Lib.compareBytes (f x) (f y)) where
 irrefl x:=by unfold ltOf;rw[P2,Qld];rfl
 trans x y z h1 h2:=by
  unfold ltOf at *;rw[P2] at *;cases h3:leL (f z) (f x) with
  |false=>rfl
  |true=>
   cases hyx:leL (f y) (f x) with
   |true=>rw[hyx] at h1;cases h1
   |false=>
    have c:=(WT (f x) (f y)).resolve_right (by rw[hyx];decide);rw[TS h3 c] at h2;cases h2
 ntrans x y z h1 h2:=by
  unfold ltOf at *;rw[P2] at *;have a:leL (f y) (f x)=true:=vO;have b:leL (f z) (f y)=true:=vP;rw[TS b a];rfl
end Go.Proofs.YtjjmalchelniiaaGreatDoor