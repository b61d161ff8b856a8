/- What the calls of package whole return, and what the document's own answers for them return: for each call one contract, by the plain functions of Nums. Conditions: numbers are what an int holds. -/
import Derived.Test.YtlfebbcgpdnndaaRows
import Derived.Test.YtlfebbcgpdnndaaNums
import Derived.WalkKit
import Derived.ProofKit
import Derived.Lib.Hide
namespace Go.Proofs.Ytlfebbcgpdnndaa
open Go.RowKit

set_option maxHeartbeats 400000 in
theorem clip_code (n lo hi : Int) (w : World) :
    Calls Try.prog 7 #[.int .i64 n, .int .i64 lo, .int .i64 hi] w fun e w' => e = .returned (.int .i64 (clip n lo hi)) ∧ w = w' := by
  go_enter Try.func7, Try.ntmps7
  go_wp2
  all_goals (go_ret; exact ⟨ret_int (by unfold clip; omega), rfl⟩)

set_option maxHeartbeats 400000 in
theorem clip_page (n lo hi : Int) (w : World) :
    Calls Try.prog 8 #[.int .i64 n, .int .i64 lo, .int .i64 hi] w fun e w' => e = .returned (.int .i64 (clip n lo hi)) ∧ w = w' := by
  by_cases h1 : hi < lo
  · go_enter Try.func8, Try.ntmps8
    go_wp2
    all_goals (go_ret; exact ⟨ret_int (by unfold clip; omega), rfl⟩)
  · by_cases h2 : n < lo
    · go_enter Try.func8, Try.ntmps8
      go_wp2
      all_goals (go_ret; exact ⟨ret_int (by unfold clip; omega), rfl⟩)
    · go_enter Try.func8, Try.ntmps8
      go_wp2
      all_goals (go_ret; exact ⟨ret_int (by unfold clip; omega), rfl⟩)

set_option maxHeartbeats 400000 in
theorem middle_code (a b c : Int) (w : World) :
    Calls Try.prog 9 #[.int .i64 a, .int .i64 b, .int .i64 c] w fun e w' => e = .returned (.int .i64 (middle a b c)) ∧ w = w' := by
  go_enter Try.func9, Try.ntmps9
  go_wp2
  all_goals (go_ret; exact ⟨ret_int (by unfold middle; omega), rfl⟩)

set_option maxHeartbeats 400000 in
theorem middle_page (a b c : Int) (w : World) :
    Calls Try.prog 10 #[.int .i64 a, .int .i64 b, .int .i64 c] w fun e w' => e = .returned (.int .i64 (middle a b c)) ∧ w = w' := by
  go_enter Try.func10, Try.ntmps10
  go_wp2
  all_goals (go_ret; exact ⟨ret_int (by unfold middle; omega), rfl⟩)

set_option maxHeartbeats 400000 in
theorem wrap_code (n : Int) (w : World) :
    Calls Try.prog 12 #[.int .i64 n] w fun e w' => e = .returned (.int .i64 (wrap n)) ∧ w = w' := by
  have ha := and_63 n
  have h1 : 0 ≤ n % 64 := by omega
  have h2 : n % 64 ≤ 63 := by omega
  go_enter Try.func12, Try.ntmps12
  go_wp2
  all_goals (go_ret; exact ⟨ret_int (by unfold wrap; omega), rfl⟩)

theorem tmod_64 (n : Int) : -64 < n.tmod 64 ∧ n.tmod 64 < 64 ∧ ((0 ≤ n.tmod 64 ∧ n.tmod 64 = n % 64) ∨ (n.tmod 64 < 0 ∧ n.tmod 64 = n % 64 - 64)) := by
  rw [Int.tmod_eq_emod]
  split <;> omega

set_option maxHeartbeats 400000 in
theorem wrap_page (n : Int) (w : World) :
    Calls Try.prog 13 #[.int .i64 n] w fun e w' => e = .returned (.int .i64 (wrap n)) ∧ w = w' := by
  obtain ⟨h1, h2, h3⟩ := tmod_64 n
  have H3 := Lib.hid h3
  clear h3
  go_enter Try.func13, Try.ntmps13
  go_wp2
  all_goals (go_ret; exact ⟨ret_int (by have := H3.out; unfold wrap; omega), rfl⟩)

set_option maxHeartbeats 400000 in
theorem share_code (n part all : Int) (w : World) :
    Calls Try.prog 14 #[.int .i64 n, .int .i64 part, .int .i64 all] w fun e w' => e = .returned (.int .i64 (share n part all)) ∧ w = w' := by
  have n1 := clip_lo n 0 2147483647
  have n2 := clip_hi n 0 2147483647 (by omega)
  have a1 := clip_lo all 0 2147483647
  have a2 := clip_hi all 0 2147483647 (by omega)
  have p1 := clip_lo part 0 (clip all 0 2147483647)
  have p2 := clip_hi part 0 (clip all 0 2147483647) a1
  obtain ⟨m1, m2⟩ := mul_most _ _ n1 n2 p1 (by omega)
  have hfin : share n part all = clip n 0 2147483647 * clip part 0 (clip all 0 2147483647) / clip all 0 2147483647 := rfl
  have F := Lib.hid hfin
  clear hfin
  by_cases h0 : clip all 0 2147483647 = 0
  · have hz : share n part all = 0 := by rw [F.out, h0]; simp
    have Z := Lib.hid hz
    have ht : (clip all 0 2147483647 == 0) = true := by simpa using h0
    clear hz h0
    go_enter Try.func14, Try.ntmps14
    go_wp2_with (go_at_call 7; refine (clip_code _ _ _ _).mono ?_; rintro e w' ⟨rfl, rfl⟩)
    go_ret
    exact ⟨ret_int Z.out.symm, rfl⟩
  · have ht : (clip all 0 2147483647 == 0) = false := by simpa using h0
    have a3 : 1 ≤ clip all 0 2147483647 := by omega
    clear h0
    go_enter Try.func14, Try.ntmps14
    go_wp2_with (go_at_call 7; refine (clip_code _ _ _ _).mono ?_; rintro e w' ⟨rfl, rfl⟩)
    go_ret
    exact ⟨ret_int F.out.symm, rfl⟩

set_option maxHeartbeats 400000 in
theorem share_page (n part all : Int) (w : World) :
    Calls Try.prog 15 #[.int .i64 n, .int .i64 part, .int .i64 all] w fun e w' => e = .returned (.int .i64 (share n part all)) ∧ w = w' := by
  have n1 := clip_lo n 0 2147483647
  have n2 := clip_hi n 0 2147483647 (by omega)
  have a1 := clip_lo all 0 2147483647
  have a2 := clip_hi all 0 2147483647 (by omega)
  have p1 := clip_lo part 0 (clip all 0 2147483647)
  have p2 := clip_hi part 0 (clip all 0 2147483647) a1
  obtain ⟨m1, m2⟩ := mul_most _ _ n1 n2 p1 (by omega)
  have hfin : share n part all = clip n 0 2147483647 * clip part 0 (clip all 0 2147483647) / clip all 0 2147483647 := rfl
  have F := Lib.hid hfin
  clear hfin
  by_cases h0 : clip all 0 2147483647 = 0
  · have hz : share n part all = 0 := by rw [F.out, h0]; simp
    have Z := Lib.hid hz
    have ht : (clip all 0 2147483647 == 0) = true := by simpa using h0
    clear hz h0
    go_enter Try.func15, Try.ntmps15
    go_wp2_with (go_at_call 8; refine (clip_page _ _ _ _).mono ?_; rintro e w' ⟨rfl, rfl⟩)
    go_ret
    exact ⟨ret_int Z.out.symm, rfl⟩
  · have ht : (clip all 0 2147483647 == 0) = false := by simpa using h0
    have a3 : 1 ≤ clip all 0 2147483647 := by omega
    clear h0
    go_enter Try.func15, Try.ntmps15
    go_wp2_with (go_at_call 8; refine (clip_page _ _ _ _).mono ?_; rintro e w' ⟨rfl, rfl⟩)
    go_ret
    exact ⟨ret_int F.out.symm, rfl⟩
end Go.Proofs.Ytlfebbcgpdnndaa
