/- Texts that SheetoutPuts's proof stands on, part 38 of 47. No condition of its own. -/
import Derived.Test.YtgikochfffdpfaaGreatDoorSheetoutPutsMbb
import Derived.Test.YtgikochfffdpfaaGreatDoorSheetoutPutsMbg
namespace Go.Proofs.YtgikochfffdpfaaGreatDoor
open Go.RowKit Go.Lib Go.Shelf
theorem Yuy:Builder.Extra Tryz.prog Tryz.lRepeat_ren where
 sizeBuilder:=by kernel_rfl
 liesBuilder:=by kernel_rfl
 t5:=Tryz.underlying5
 a5:=Tryz.isAgg5
 z5:=Tryz.sizeOf5
 v5:=Tryz.zeroValue5
 infoByte:=by kernel_rfl
 cellsByte:=by kernel_rfl
 sizeByte:=by kernel_rfl
 neB5:=by decide
theorem Ynp (inter:Bool):∀n,Lib.repeatL (Yh9 inter) n=Ybq inter n
 | 0=> rfl
 | n+1=> by rw [Yjx,←Ynp inter n];rfl
theorem Yww (inter:Bool) (n:Nat) (s:ByteArray) (w:World) (hs:s.data.toList=Yh9 inter) (hn:n≤64):
  Calls Tryz.prog 141 #[.string s,.int .i64 (n:Nat)] w fun e w'=> e = .returned (.string ⟨(Ybq inter n).toArray⟩)∧Below w.heap.size w w':=by
 have hz:s.size≤10:=by
  have h:=(Yld inter).2
  rw [←hs] at h
  exact h
 have h:=Any.strings_Repeat Tryz.lRepeat Yuy s n w (by omega) (Nat.le_trans (Nat.mul_le_mul hz hn) (by decide))
 rw [hs,Ynp] at h
 exact h
end Go.Proofs.YtgikochfffdpfaaGreatDoor