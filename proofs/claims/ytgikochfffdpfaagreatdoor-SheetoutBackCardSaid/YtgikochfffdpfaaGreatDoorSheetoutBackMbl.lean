/- Texts that SheetoutBack's proof stands on, part 38 of 52. No condition of its own. -/
import Derived.Test.YtgikochfffdpfaaGreatDoorSheetoutBackMt
import Derived.Shelf.SlSortCmp.Insertion
namespace Go.Proofs.YtgikochfffdpfaaGreatDoor
open Go.RowKit Go.Sort
theorem Y1e {α:Type} (f:α→List UInt8):SWO (ltOf fun x y:α=> Lib.compareBytes (f x) (f y)) where
 irrefl x:=by unfold ltOf;rw [Ylh,Qck];rfl
 trans x y z h1 h2:=by
  unfold ltOf at *
  rw [Ylh] at *
  cases h3:leL (f z) (f x) with
  | false=> rfl
  | true=>
   cases hyx:leL (f y) (f x) with
   | true=> rw [hyx] at h1;cases h1
   | false=>
    have hxy:=(Yvq (f x) (f y)).resolve_right (by rw [hyx];decide)
    rw [Yog h3 hxy] at h2;cases h2
 ntrans x y z h1 h2:=by
  unfold ltOf at *
  rw [Ylh] at *
  have a:leL (f y) (f x)=true:=by simpa using h1
  have b:leL (f z) (f y)=true:=by simpa using h2
  rw [Yog b a];rfl
end Go.Proofs.YtgikochfffdpfaaGreatDoor