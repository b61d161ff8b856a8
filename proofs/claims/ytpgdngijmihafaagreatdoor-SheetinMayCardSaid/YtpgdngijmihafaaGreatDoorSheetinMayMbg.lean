/- Texts that SheetinMay's proof stands on, part 33 of 52. No condition of its own. -/
import Derived.Test.YtpgdngijmihafaaGreatDoorSheetinMayMu
import Derived.Shelf.SlSortCmp.Insertion
namespace Go.Proofs.YtpgdngijmihafaaGreatDoor
open Go.RowKit Go.Sort
theorem Ywn {α:Type} (f:α→List UInt8):SWO (ltOf fun x y:α=> Lib.compareBytes (f x) (f y)) where
 irrefl x:=by unfold ltOf;rw [Yio,Y5r];rfl
 trans x y z h1 h2:=by
  unfold ltOf at *
  rw [Yio] at *
  cases h3:leL (f z) (f x) with
  | false=> rfl
  | true=>
   cases hyx:leL (f y) (f x) with
   | true=> rw [hyx] at h1;cases h1
   | false=>
    have hxy:=(Yrp (f x) (f y)).resolve_right (by rw [hyx];decide)
    rw [Yk6 h3 hxy] at h2;cases h2
 ntrans x y z h1 h2:=by
  unfold ltOf at *
  rw [Yio] at *
  have a:leL (f y) (f x)=true:=by simpa using h1
  have b:leL (f z) (f y)=true:=by simpa using h2
  rw [Yk6 b a];rfl
end Go.Proofs.YtpgdngijmihafaaGreatDoor