/-
  DERIVED. GIVEN WITH THE SEED: THE PROGRAM's TIES (one call each: nine closed facts by the kernel) AND EACH ROW's TIE, after the 31st guide's Derived/Test/Toyas{Tie, Card}.lean. No idea stands in it: it is a product of the set-up. Laid BY PROGRAM, IN A SANDBOX (cutbox-door.mjs). By AI agents, Wed Nov 11 2026. No macro, syntax, notation, axiom, sorry.
-/
import Derived.Test.YtekjgcchnmnplaaDoorRows
import Derived.LaidByTextLater
import Derived.SevenTiedAt
import Derived.LaidSub
import Derived.LaidOnce
namespace Go.Proofs.YtekjgcchnmnplaaDoor
open Go
set_option maxRecDepth 100000
theorem seatTie1 : Tryd.prog.laidByTextLater [("overspill/mvd.codes", Rows.laid_overspill_mvd_codes), ("overspill/mvd.lengths", Rows.laid_overspill_mvd_lengths), ("overspill/tcoef.codes", Rows.laid_overspill_tcoef_codes), ("overspill/tcoef.lengths", Rows.laid_overspill_tcoef_lengths), ("overspill/tcoef.ahead", Rows.laid_overspill_tcoef_ahead), ("overspill/steps.codes", Rows.laid_overspill_steps_codes), ("overspill/cbpy.rows", Rows.laid_overspill_cbpy_rows)] [.data, .data, .data, .data, .data, .data, .data] true :=
  Program.laidByTextLater_by_one 48 8 104 (by kernel_rfl) (by kernel_rfl) (by kernel_rfl) (by kernel_rfl) (by kernel_rfl) (by kernel_rfl) (fun _ _ => by kernel_rfl)
theorem noOwnUnsafe : Tryd.pinned.checked.prog.headLifts.contains "ownunsafe" = false := by kernel_rfl
theorem tie : Tryd.prog.laidByTextLater [("overspill/mvd.codes", Rows.laid_overspill_mvd_codes), ("overspill/mvd.lengths", Rows.laid_overspill_mvd_lengths), ("overspill/tcoef.codes", Rows.laid_overspill_tcoef_codes), ("overspill/tcoef.lengths", Rows.laid_overspill_tcoef_lengths), ("overspill/tcoef.ahead", Rows.laid_overspill_tcoef_ahead), ("overspill/steps.codes", Rows.laid_overspill_steps_codes), ("overspill/cbpy.rows", Rows.laid_overspill_cbpy_rows)] [.data, .data, .data, .data, .data, .data, .data] true :=
  Program.laidByTextLater.sub seatTie1 ["overspill/mvd.codes", "overspill/mvd.lengths", "overspill/tcoef.codes", "overspill/tcoef.lengths", "overspill/tcoef.ahead", "overspill/steps.codes", "overspill/cbpy.rows"] (by kernel_rfl) (by kernel_rfl)
theorem celloutPuts_row_tie : Rows.celloutPutsRow.laidByTextAt .later Tryd.pinned [.data, .data, .data, .data, .data, .data, .data] true :=
  OpenClaim.laidByTextAt_later rfl rfl tie noOwnUnsafe
theorem celloutPutsUpto_row_tie : Rows.celloutPutsUptoRow.laidByTextAt .later Tryd.pinned [.data, .data, .data, .data, .data, .data, .data] true :=
  OpenClaim.laidByTextAt_later rfl rfl tie noOwnUnsafe
end Go.Proofs.YtekjgcchnmnplaaDoor
