/- Texts that SheetheadPuts's proof stands on, part 21 of 23. No condition of its own. -/
import Derived.Test.YtgbnpmpkfkijdaaSheetheadPutsMc
import Derived.Test.YtgbnpmpkfkijdaaSheetheadPutsMf
import Derived.RegionTactic
import Derived.Deep.RegionWith
namespace Go.Proofs.Ytgbnpmpkfkijdaa
open Go.RowKit Go.Lib
def strH (l : List UInt8) : ByteArray := ⟨l.toArray⟩
theorem strH_cat (l m : List UInt8) : strH l ++ strH m = strH (l ++ m) := by apply ByteArray.ext; simp [strH]
theorem strH_size (l : List UInt8) : (strH l).size = l.length := by simp [strH, ByteArray.size]
theorem mark_head : ∀ n : Fin 32, [48, 48, 48, 48, 48, 48, 48, 48, 48, 48, 48, 48, 48, 48, 48, 48, 49] ++ rowOf n.val 5 = markRow n.val := by decide +kernel
theorem mark_lit : (⟨#[48, 48, 48, 48, 48, 48, 48, 48, 48, 48, 48, 48, 48, 48, 48, 48, 49]⟩ : ByteArray) = strH [48, 48, 48, 48, 48, 48, 48, 48, 48, 48, 48, 48, 48, 48, 48, 48, 49] := rfl
set_option maxHeartbeats 1000000 in
theorem mrow_page (n : Nat) (h : n < 32) (w : World) :
  Calls Try.prog 29 #[.int .i64 (n : Int)] w fun e w' => e = .returned (.string (strH (markRow n))) ∧ w = w' := by
 have c := fun w => row_page (n : Int) 5 (by omega) (by omega) (by decide) (by decide) w
 rw [Int.toNat_natCast, show (5 : Int).toNat = 5 from rfl] at c
 have E : (⟨#[48, 48, 48, 48, 48, 48, 48, 48, 48, 48, 48, 48, 48, 48, 48, 48, 49]⟩ : ByteArray) ++ ⟨(rowOf n 5).toArray⟩ = strH (markRow n) := by
  rw [mark_lit, ← mark_head ⟨n, h⟩]
  exact strH_cat _ _
 have hz : (⟨(rowOf n 5).toArray⟩ : ByteArray).size = 5 := by rw [size_mk, rowOf_length]
 generalize (⟨(rowOf n 5).toArray⟩ : ByteArray) = R at c E hz
 have hz2 : R.size ≤ 5 := by omega
 have HE := Lib.hid E
 clear h hz E
 go_enter Try.func29, Try.ntmps29
 go_wp2_with fail
 refine (c _).mono ?_
 rintro e w1 ⟨rfl, rfl⟩
 go_wp2
 go_ret
 rw [HE.out]
 exact ⟨rfl, rfl⟩
end Go.Proofs.Ytgbnpmpkfkijdaa
