/- What Round of package whole, and the document's own answer for it, return. Conditions: numbers are what an int holds. -/
import Derived.Test.YtnpmllbdpmkliaaWhole
import Derived.LoopTactic

namespace Go.Proofs.Ytnpmllbdpmkliaa
open Go.RowKit

set_option maxHeartbeats 400000 in
theorem round_code (n bits : Int) (w : World) :
    Calls Try.prog 43 #[.int .i64 n, .int .i64 bits] w fun e w' => e = .returned (.int .i64 (round n bits)) ∧ w = w' := by
  have n1 := clip_lo n (-1099511627776) 1099511627776
  have n2 := clip_hi n (-1099511627776) 1099511627776 (by omega)
  have b1 := clip_lo bits 0 32
  have b2 := clip_hi bits 0 32 (by omega)
  by_cases h0 : clip bits 0 32 = 0
  · have hz : round n bits = clip n (-1099511627776) 1099511627776 := by unfold round; rw [if_pos h0]
    have Z := Lib.hid hz
    have ht : (clip bits 0 32 == 0) = true := by simpa using h0
    clear hz h0
    go_enter Try.func43, Try.ntmps43
    go_wp2_with (go_at_call 19; refine (clip_code _ _ _ _).mono ?_; rintro e w' ⟨rfl, rfl⟩)
    go_ret
    exact ⟨ret_int Z.out.symm, rfl⟩
  · have ht : (clip bits 0 32 == 0) = false := by simpa using h0
    have hz : round n bits = (clip n (-1099511627776) 1099511627776 + 2 ^ ((clip bits 0 32).toNat - 1)) / 2 ^ (clip bits 0 32).toNat := by unfold round; rw [if_neg h0]
    have Z := Lib.hid hz
    have b3 : 1 ≤ clip bits 0 32 := by omega
    clear hz h0
    obtain ⟨q1, q2⟩ := pow_most ((clip bits 0 32).toNat - 1) (by omega)
    go_enter Try.func43, Try.ntmps43
    go_wp2_with (go_at_call 19; refine (clip_code _ _ _ _).mono ?_; rintro e w' ⟨rfl, rfl⟩)
    go_ret
    exact ⟨ret_int Z.out.symm, rfl⟩

/-- A quotient that is cut towards nought, and one less where it was cut upwards: rounded down. -/
theorem floor_up (S P : Int) (h : 0 ≤ S) : S.tdiv P = S / P := Int.tdiv_eq_ediv_of_nonneg h
theorem floor_even (S P : Int) (h : S.tdiv P * P = S) : S.tdiv P = S / P := by
  have hd : P ∣ S := ⟨S.tdiv P, by rw [Int.mul_comm]; exact h.symm⟩
  rw [Int.tdiv_eq_ediv]; simp [hd]
theorem floor_down (S P : Int) (hP : 1 ≤ P) (h0 : S < 0) (h : ¬ S.tdiv P * P = S) : S.tdiv P - 1 = S / P := by
  have hd : ¬ P ∣ S := fun hd => h (Int.tdiv_mul_cancel hd)
  rw [Int.tdiv_eq_ediv]
  have hs : P.sign = 1 := Int.sign_eq_one_of_pos (by omega)
  simp [hd, hs, show ¬ 0 ≤ S by omega]
theorem tdiv_within (S P : Int) (hP : 1 ≤ P) (b : Int) (h1 : -b ≤ S) (h2 : S ≤ b) : -b ≤ S.tdiv P ∧ S.tdiv P ≤ b ∧ -b ≤ S.tdiv P * P ∧ S.tdiv P * P ≤ b := by
  by_cases h : 0 ≤ S
  · rw [floor_up S P h]
    have e1 := Int.ediv_nonneg h (by omega : 0 ≤ P)
    have e2 := Int.ediv_le_self P h
    have e3 := Int.ediv_mul_le S (by omega : P ≠ 0)
    have e4 := Int.mul_nonneg e1 (by omega : 0 ≤ P)
    omega
  · have e0 : S.tdiv P = -((-S) / P) := by rw [← Int.tdiv_eq_ediv_of_nonneg (by omega : 0 ≤ -S), Int.neg_tdiv]; omega
    rw [e0]
    have e1 := Int.ediv_nonneg (by omega : 0 ≤ -S) (by omega : 0 ≤ P)
    have e2 := Int.ediv_le_self P (by omega : 0 ≤ -S)
    have e3 := Int.ediv_mul_le (-S) (by omega : P ≠ 0)
    have e4 := Int.mul_nonneg e1 (by omega : 0 ≤ P)
    rw [Int.neg_mul]
    omega

end Go.Proofs.Ytnpmllbdpmkliaa
