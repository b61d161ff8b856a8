/- Texts that CelloutBack's proof stands on, part 30 of 45. No condition of its own. -/
import Derived.Test.YtekjgcchnmnplaaGreatDoorCelloutBackMs
import Derived.Test.YtekjgcchnmnplaaGreatDoorCelloutBackMw
namespace Go.Proofs.YtekjgcchnmnplaaGreatDoor
open Go.RowKit Go.Lib Go.Shelf
theorem rep_extra : Builder.Extra Tryz.prog Tryz.lRepeat_ren where
 sizeBuilder := by kernel_rfl
 liesBuilder := by kernel_rfl
 t5 := Tryz.underlying5
 a5 := Tryz.isAgg5
 z5 := Tryz.sizeOf5
 v5 := Tryz.zeroValue5
 infoByte := by kernel_rfl
 cellsByte := by kernel_rfl
 sizeByte := by kernel_rfl
 neB5 := by decide
theorem rep_stuff (inter : Bool) : ∀ n, Lib.repeatL (stuffL inter) n = stuffN inter n
 | 0 => rfl
 | n + 1 => by rw [stuffN_more, ← rep_stuff inter n]; rfl
theorem rep_code (inter : Bool) (n : Nat) (s : ByteArray) (w : World) (hs : s.data.toList = stuffL inter) (hn : n ≤ 64) :
  Calls Tryz.prog 32 #[.string s, .int .i64 (n : Nat)] w fun e w' => e = .returned (.string ⟨(stuffN inter n).toArray⟩) ∧ Below w.heap.size w w' := by
 have hz : s.size ≤ 10 := by
  have h := (stuffL_row inter).2
  rw [← hs] at h
  exact h
 have h := Any.strings_Repeat Tryz.lRepeat rep_extra s n w (by omega) (Nat.le_trans (Nat.mul_le_mul hz hn) (by decide))
 rw [hs, rep_stuff] at h
 exact h
end Go.Proofs.YtekjgcchnmnplaaGreatDoor
