/- Texts that CelloutBack's proof stands on, part 34 of 45. No condition of its own. -/
import Derived.Test.YtekjgcchnmnplaaGreatDoorCelloutBackMk
import Derived.Shelf.SlSortCmp.Insertion
namespace Go.Proofs.YtekjgcchnmnplaaGreatDoor
open Go.RowKit Go.Sort
theorem swo_rows {α : Type} (f : α → List UInt8) : SWO (ltOf fun x y : α => Lib.compareBytes (f x) (f y)) where
 irrefl x := by unfold ltOf; rw [cmp_leL, leL_refl]; rfl
 trans x y z h1 h2 := by
  unfold ltOf at *
  rw [cmp_leL] at *
  cases h3 : leL (f z) (f x) with
  | false => rfl
  | true =>
   cases hyx : leL (f y) (f x) with
   | true => rw [hyx] at h1; cases h1
   | false =>
    have hxy := (leL_total (f x) (f y)).resolve_right (by rw [hyx]; decide)
    rw [leL_trans h3 hxy] at h2; cases h2
 ntrans x y z h1 h2 := by
  unfold ltOf at *
  rw [cmp_leL] at *
  have a : leL (f y) (f x) = true := by simpa using h1
  have b : leL (f z) (f y) = true := by simpa using h2
  rw [leL_trans b a]; rfl
end Go.Proofs.YtekjgcchnmnplaaGreatDoor
