/- Package coarse and the document's own answer of layer 13: the level of a value, by a quantiser; what is told of a first value. No condition. -/
import Derived.Test.YtgldkllmabkckaaClip
import Derived.Test.YtgldkllmabkckaaRound
import Derived.Test.YtgldkllmabkckaaVal
import Derived.LoopTactic
namespace Go.Proofs.Ytgldkllmabkckaa
open Go.RowKit

/-- How often a step fits into an amount, at most 127 times. -/
def amtL (n s : Int) : Int := min (max n 0 / s) 127
theorem amtL_lo {n s : Int} (h : 1 ≤ s) : 0 ≤ amtL n s := by
  have := Int.ediv_nonneg (show 0 ≤ max n 0 by omega) (show 0 ≤ s by omega)
  unfold amtL; omega
theorem amtL_hi (n s : Int) : amtL n s ≤ 127 := by unfold amtL; omega
theorem amtL_mono {a b s : Int} (hs : 1 ≤ s) (h : a ≤ b) : amtL a s ≤ amtL b s := by
  have := Int.ediv_le_ediv (c := s) (by omega) (show max a 0 ≤ max b 0 by omega)
  unfold amtL; omega
theorem amtL_step {n s t : Int} (hs : 1 ≤ s) (h : s ≤ t) : amtL n t ≤ amtL n s := by
  have h1 : max n 0 / t ≤ max n 0 / s := by
    rw [Int.le_ediv_iff_mul_le (by omega)]
    have a := Int.ediv_nonneg (show 0 ≤ max n 0 by omega) (show 0 ≤ t by omega)
    have b := Int.mul_le_mul_of_nonneg_left h a
    have c := Int.ediv_mul_le (max n 0) (show t ≠ 0 by omega)
    omega
  unfold amtL; omega
/-- One more fits, as long as it is fewer. -/
theorem amtL_more {n s k : Int} (hs : 1 ≤ s) (h0 : 0 ≤ k) (h1 : k < 127) : (k + 1) * s ≤ n ↔ k + 1 ≤ amtL n s := by
  have h := Int.le_ediv_iff_mul_le (a := k + 1) (b := max n 0) (c := s) (by omega)
  have p := Int.mul_le_mul_of_nonneg_right (show 1 ≤ k + 1 by omega) (show 0 ≤ s by omega)
  unfold amtL
  constructor
  · intro g
    have := h.2 (by omega)
    omega
  · intro g
    have := h.1 (by omega)
    omega
/-- What is taken away of the amount first. -/
def lessV (q : Int) (intra : Bool) : Int := if intra then 0 else q / 2
/-- The level of a value that is clipped, by a quantiser that is. -/
def levC (v q less : Int) : Int := if v < 0 then -(amtL (-v - less) (2 * q)) else amtL (v - less) (2 * q)
/-- The level of a value. -/
def levV (v q : Int) (intra : Bool) : Int := levC (clip v (-2048) 2047) (clip q 1 31) (lessV (clip q 1 31) intra)
/-- What is told of a first value. -/
def tellV (v : Int) : Int := clip ((clip v (-2048) 2047 + 4) / 8) 1 254

/-! ### By the code -/
theorem quo_step (a q : Int) (h0 : 0 ≤ a) (h1 : a ≤ 2048) (h2 : 1 ≤ q) : a.tdiv (2 * q) = a / (2 * q) ∧ 0 ≤ a / (2 * q) ∧ a / (2 * q) ≤ 2048 := by
  have e := Int.tdiv_eq_ediv_of_nonneg (b := 2 * q) h0
  have l := Int.ediv_nonneg h0 (show 0 ≤ 2 * q by omega)
  have m := Int.ediv_le_self (2 * q) h0
  exact ⟨e, l, by omega⟩
set_option maxHeartbeats 400000 in
theorem level_code (v q less : Int) (h2 : 1 ≤ q) (h3 : q ≤ 31) (h4 : 0 ≤ less) (h5 : less ≤ 15) (w : World) :
    Calls Try.prog 16 #[.int .i64 v, .int .i64 q, .int .i64 less] w fun e w' => e = .returned (.int .i64 (levC (clip v (-2048) 2047) q less)) ∧ w = w' := by
  have v1 := clip_lo v (-2048) 2047
  have v2 := clip_hi v (-2048) 2047 (by omega)
  have c1 := fun w => clip_code v (-2048) 2047 w
  generalize clip v (-2048) 2047 = x at *
  by_cases hx : x < 0
  · have F : levC x q less = -(min (max (-x - less) 0 / (2 * q)) 127) := by unfold levC amtL; rw [if_pos hx]
    by_cases ha : -x - less < 0
    · rw [show max (-x - less) 0 = 0 by omega, Int.zero_ediv] at F
      have HF := Lib.hid F
      clear F
      go_enter Try.func16, Try.ntmps16
      go_wp2_with (with_reducible refine (c1 _).mono ?_; rintro e w1 ⟨rfl, rfl⟩)
      all_goals (go_ret; exact ⟨ret_int (by rw [HF.out]; rfl), rfl⟩)
    · rw [show max (-x - less) 0 = -x - less by omega] at F
      obtain ⟨e1, e2, e3⟩ := quo_step (-x - less) q (by omega) (by omega) h2
      have HF := Lib.hid F
      clear F
      go_enter Try.func16, Try.ntmps16
      go_wp2_with (with_reducible refine (c1 _).mono ?_; rintro e w1 ⟨rfl, rfl⟩)
      all_goals (go_ret; exact ⟨ret_int (by rw [HF.out]; omega), rfl⟩)
  · have F : levC x q less = min (max (x - less) 0 / (2 * q)) 127 := by unfold levC amtL; rw [if_neg hx]
    by_cases ha : x - less < 0
    · rw [show max (x - less) 0 = 0 by omega, Int.zero_ediv] at F
      have HF := Lib.hid F
      clear F
      go_enter Try.func16, Try.ntmps16
      go_wp2_with (with_reducible refine (c1 _).mono ?_; rintro e w1 ⟨rfl, rfl⟩)
      all_goals (go_ret; exact ⟨ret_int (by rw [HF.out]; rfl), rfl⟩)
    · rw [show max (x - less) 0 = x - less by omega] at F
      obtain ⟨e1, e2, e3⟩ := quo_step (x - less) q (by omega) (by omega) h2
      have HF := Lib.hid F
      clear F
      go_enter Try.func16, Try.ntmps16
      go_wp2_with (with_reducible refine (c1 _).mono ?_; rintro e w1 ⟨rfl, rfl⟩)
      all_goals (go_ret; exact ⟨ret_int (by rw [HF.out]; omega), rfl⟩)
set_option maxHeartbeats 400000 in
theorem inter_code (v q : Int) (w : World) : Calls Try.prog 6 #[.int .i64 v, .int .i64 q] w fun e w' => e = .returned (.int .i64 (levV v q false)) ∧ w = w' := by
  have q1 := clip_lo q 1 31
  have q2 := clip_hi q 1 31 (by omega)
  have c1 := fun w => clip_code q 1 31 w
  have F := Lib.hid (show levV v q false = levC (clip v (-2048) 2047) (clip q 1 31) (clip q 1 31 / 2) from rfl)
  generalize clip q 1 31 = y at *
  have c2 := fun w => level_code v y (y / 2) q1 q2 (by omega) (by omega) w
  rw [← F.out] at c2
  have e := Lib.hid (Int.tdiv_eq_ediv_of_nonneg (b := 2) (show 0 ≤ y by omega))
  go_enter Try.func6, Try.ntmps6
  go_wp2_with (first
    | (with_reducible refine (c1 _).mono ?_; rintro e w1 ⟨rfl, rfl⟩)
    | (with_reducible refine (c2 _).mono ?_; rintro e w1 ⟨rfl, rfl⟩))
  go_ret
  exact ⟨rfl, rfl⟩
set_option maxHeartbeats 400000 in
theorem intra_code (v q : Int) (w : World) : Calls Try.prog 8 #[.int .i64 v, .int .i64 q] w fun e w' => e = .returned (.int .i64 (levV v q true)) ∧ w = w' := by
  have q1 := clip_lo q 1 31
  have q2 := clip_hi q 1 31 (by omega)
  have c1 := fun w => clip_code q 1 31 w
  have F := Lib.hid (show levV v q true = levC (clip v (-2048) 2047) (clip q 1 31) 0 from rfl)
  generalize clip q 1 31 = y at *
  have c2 := fun w => level_code v y 0 q1 q2 (by omega) (by omega) w
  rw [← F.out] at c2
  go_enter Try.func8, Try.ntmps8
  go_wp2_with (first
    | (with_reducible refine (c1 _).mono ?_; rintro e w1 ⟨rfl, rfl⟩)
    | (with_reducible refine (c2 _).mono ?_; rintro e w1 ⟨rfl, rfl⟩))
  go_ret
  exact ⟨rfl, rfl⟩
theorem round_3 (n : Int) : round (clip n (-2048) 2047) 3 = (clip n (-2048) 2047 + 4) / 8 := by
  unfold round
  have := clip_lo n (-2048) 2047
  have := clip_hi n (-2048) 2047 (by omega)
  rw [show clip 3 0 32 = 3 by decide, if_neg (by omega), clip_of _ (-1099511627776) 1099511627776 (by omega) (by omega)]
  rfl
set_option maxHeartbeats 400000 in
theorem tell_code (v : Int) (w : World) : Calls Try.prog 9 #[.int .i64 v] w fun e w' => e = .returned (.int .i64 (tellV v)) ∧ w = w' := by
  have F := Lib.hid (show tellV v = clip ((clip v (-2048) 2047 + 4) / 8) 1 254 from rfl)
  have c1 := fun w => clip_code v (-2048) 2047 w
  have c2 := fun w => round_code (clip v (-2048) 2047) 3 w
  rw [round_3] at c2
  have c3 := fun w => clip_code ((clip v (-2048) 2047 + 4) / 8) 1 254 w
  generalize (clip v (-2048) 2047 + 4) / 8 = z at *
  rw [← F.out] at c3
  generalize clip v (-2048) 2047 = x at *
  go_enter Try.func9, Try.ntmps9
  go_wp2_with (first
    | (with_reducible refine (c1 _).mono ?_; rintro e w1 ⟨rfl, rfl⟩)
    | (with_reducible refine (c2 _).mono ?_; rintro e w1 ⟨rfl, rfl⟩)
    | (with_reducible refine (c3 _).mono ?_; rintro e w1 ⟨rfl, rfl⟩))
  go_ret
  exact ⟨rfl, rfl⟩

/-! ### By the page -/
set_option maxHeartbeats 400000 in
theorem amount_page (n s : Int) (h2 : 1 ≤ s) (h3 : s ≤ 62) (w : World) :
    Calls Try.prog 18 #[.int .i64 n, .int .i64 s] w fun e w' => e = .returned (.int .i64 (amtL n s)) ∧ w = w' := by
  have a0 := amtL_lo (n := n) h2
  have a1 := amtL_hi n s
  have more := fun (k : Int) (h0 : 0 ≤ k) (h1 : k < 127) => amtL_more (n := n) h2 h0 h1
  generalize amtL n s = y at *
  go_enter Try.func18, Try.ntmps18
  go_wp2
  go_loop [5] (fun z => ∃ k : Int, 0 ≤ k ∧ k ≤ y ∧ z = .int .i64 k) (fun z => 127 - (intOf z).toNat)
  case atStart => exact ⟨0, by omega, a0, rfl⟩
  case round =>
    obtain ⟨k, k0, k1, rfl⟩ := hrel
    by_cases hk : k < 127
    · have p0 := Int.mul_nonneg (show 0 ≤ k + 1 by omega) (show 0 ≤ s by omega)
      have p1 := Int.mul_le_mul (show k + 1 ≤ 127 by omega) h3 (by omega) (by omega)
      have m := more k k0 hk
      clear more
      by_cases hm : k + 1 ≤ y
      · have t0 := m.2 hm
        clear m
        go_wp2
        go_round
        case rel => exact ⟨k + 1, by omega, hm, by go_num⟩
        case measure => simp [intOf]; omega
      · have t0 : ¬ (k + 1) * s ≤ n := fun h => hm (m.1 h)
        have t1 : decide ((k + 1) * s ≤ n) = false := by simpa using t0
        clear m
        go_wp2
        go_ret
        exact ⟨ret_int (by omega), rfl⟩
    · clear more
      go_wp2
      go_ret
      exact ⟨ret_int (by omega), rfl⟩
set_option maxHeartbeats 1000000 in
theorem level_page (v q : Int) (intra : Bool) (w : World) : Calls Try.prog 7 #[.int .i64 v, .int .i64 q, .bool intra] w fun e w' => e = .returned (.int .i64 (levV v q intra)) ∧ w = w' := by
  have q1 := clip_lo q 1 31
  have q2 := clip_hi q 1 31 (by omega)
  have v1 := clip_lo v (-2048) 2047
  have v2 := clip_hi v (-2048) 2047 (by omega)
  have c1 := fun w => clip_page q 1 31 w
  have c2 := fun w => clip_page v (-2048) 2047 w
  have F : levV v q intra = levC (clip v (-2048) 2047) (clip q 1 31) (lessV (clip q 1 31) intra) := rfl
  generalize clip q 1 31 = y at *
  generalize clip v (-2048) 2047 = x at *
  have e := Lib.hid (Int.tdiv_eq_ediv_of_nonneg (b := 2) (show 0 ≤ y by omega))
  by_cases hx : x < 0
  · have tx : decide (x < 0) = true := by simpa using hx
    cases intra with
    | false =>
      have c3 := fun w => amount_page (-x - y / 2) (2 * y) (by omega) (by omega) w
      have G : levC x y (lessV y false) = -(amtL (-x - y / 2) (2 * y)) := by unfold levC; rw [if_pos hx]; rfl
      have a0 := amtL_lo (n := -x - y / 2) (s := 2 * y) (by omega)
      have a1 := amtL_hi (-x - y / 2) (2 * y)
      generalize amtL (-x - y / 2) (2 * y) = z at *
      have HF := Lib.hid (F.trans G)
      clear F G
      go_enter Try.func7, Try.ntmps7
      go_wp2_with (first
        | (with_reducible refine (c1 _).mono ?_; rintro e w1 ⟨rfl, rfl⟩)
        | (with_reducible refine (c2 _).mono ?_; rintro e w1 ⟨rfl, rfl⟩)
        | (with_reducible refine (c3 _).mono ?_; rintro e w1 ⟨rfl, rfl⟩))
      go_ret
      exact ⟨ret_int HF.out.symm, rfl⟩
    | true =>
      have c3 := fun w => amount_page (-x - 0) (2 * y) (by omega) (by omega) w
      have G : levC x y (lessV y true) = -(amtL (-x - 0) (2 * y)) := by unfold levC; rw [if_pos hx]; rfl
      have a0 := amtL_lo (n := -x - 0) (s := 2 * y) (by omega)
      have a1 := amtL_hi (-x - 0) (2 * y)
      generalize amtL (-x - 0) (2 * y) = z at *
      rw [Int.sub_zero] at c3
      have HF := Lib.hid (F.trans G)
      clear F G
      go_enter Try.func7, Try.ntmps7
      go_wp2_with (first
        | (with_reducible refine (c1 _).mono ?_; rintro e w1 ⟨rfl, rfl⟩)
        | (with_reducible refine (c2 _).mono ?_; rintro e w1 ⟨rfl, rfl⟩)
        | (with_reducible refine (c3 _).mono ?_; rintro e w1 ⟨rfl, rfl⟩))
      go_ret
      exact ⟨ret_int HF.out.symm, rfl⟩
  · have tx : decide (x < 0) = false := by simpa using hx
    cases intra with
    | false =>
      have c3 := fun w => amount_page (x - y / 2) (2 * y) (by omega) (by omega) w
      have G : levC x y (lessV y false) = amtL (x - y / 2) (2 * y) := by unfold levC; rw [if_neg hx]; rfl
      generalize amtL (x - y / 2) (2 * y) = z at *
      have HF := Lib.hid (F.trans G)
      clear F G
      go_enter Try.func7, Try.ntmps7
      go_wp2_with (first
        | (with_reducible refine (c1 _).mono ?_; rintro e w1 ⟨rfl, rfl⟩)
        | (with_reducible refine (c2 _).mono ?_; rintro e w1 ⟨rfl, rfl⟩)
        | (with_reducible refine (c3 _).mono ?_; rintro e w1 ⟨rfl, rfl⟩))
      go_ret
      exact ⟨ret_int HF.out.symm, rfl⟩
    | true =>
      have c3 := fun w => amount_page (x - 0) (2 * y) (by omega) (by omega) w
      have G : levC x y (lessV y true) = amtL (x - 0) (2 * y) := by unfold levC; rw [if_neg hx]; rfl
      generalize amtL (x - 0) (2 * y) = z at *
      rw [Int.sub_zero] at c3
      have HF := Lib.hid (F.trans G)
      clear F G
      go_enter Try.func7, Try.ntmps7
      go_wp2_with (first
        | (with_reducible refine (c1 _).mono ?_; rintro e w1 ⟨rfl, rfl⟩)
        | (with_reducible refine (c2 _).mono ?_; rintro e w1 ⟨rfl, rfl⟩)
        | (with_reducible refine (c3 _).mono ?_; rintro e w1 ⟨rfl, rfl⟩))
      go_ret
      exact ⟨ret_int HF.out.symm, rfl⟩
theorem tell_same (v : Int) : clip ((clip v 0 2047 + 4) / 8) 1 254 = tellV v := by unfold tellV clip; omega
set_option maxHeartbeats 400000 in
theorem tell_page (v : Int) (w : World) : Calls Try.prog 10 #[.int .i64 v] w fun e w' => e = .returned (.int .i64 (tellV v)) ∧ w = w' := by
  have c1 := fun w => clip_page v 0 2047 w
  have c3 := fun w => clip_page ((clip v 0 2047 + 4) / 8) 1 254 w
  rw [tell_same] at c3
  have v1 := clip_lo v 0 2047
  have v2 := clip_hi v 0 2047 (by omega)
  generalize clip v 0 2047 = x at *
  have e := Lib.hid (Int.tdiv_eq_ediv_of_nonneg (b := 8) (show 0 ≤ x + 4 by omega))
  go_enter Try.func10, Try.ntmps10
  go_wp2_with (first
    | (with_reducible refine (c1 _).mono ?_; rintro e w1 ⟨rfl, rfl⟩)
    | (with_reducible refine (c3 _).mono ?_; rintro e w1 ⟨rfl, rfl⟩))
  go_ret
  exact ⟨rfl, rfl⟩

/-! ### There and back, and amounts -/
theorem amtL_of {a s n : Int} (hs : 1 ≤ s) (h0 : 0 ≤ n) (h1 : n ≤ 127) (h2 : n * s ≤ a) (h3 : a < (n + 1) * s) : amtL a s = n := by
  have p := Int.mul_nonneg h0 (show 0 ≤ s by omega)
  have l := (Int.le_ediv_iff_mul_le (a := n) (b := a) (c := s) (by omega)).2 h2
  have m := Int.ediv_lt_of_lt_mul (show 0 < s by omega) h3
  unfold amtL
  rw [show max a 0 = a by omega]
  omega
theorem amtL_none {a s : Int} (h : a ≤ 0) : amtL a s = 0 := by
  unfold amtL
  rw [show max a 0 = 0 by omega, Int.zero_ediv]
  rfl
/-- Of the value of an amount that amount comes again. -/
theorem amt_back {n q : Int} (b : Bool) (h0 : 0 ≤ n) (h1 : n ≤ 127) (h2 : 1 ≤ q) : amtL (amtV n q - lessV q b) (2 * q) = n := by
  have hl : 0 ≤ lessV q b ∧ lessV q b ≤ q / 2 := by
    cases b
    · exact ⟨show 0 ≤ q / 2 by omega, Int.le_refl _⟩
    · exact ⟨Int.le_refl _, show (0 : Int) ≤ q / 2 by omega⟩
  generalize lessV q b = z at *
  by_cases e : n = 0
  · subst e
    rw [amt_zero]
    exact amtL_none (by omega)
  · have e1 : q * (2 * n + 1) = 2 * (q * n) + q := by rw [Int.mul_add, Int.mul_one, Int.mul_left_comm]
    have e2 : n * (2 * q) = 2 * (q * n) := by rw [Int.mul_left_comm, Int.mul_comm n q]
    have e3 : (n + 1) * (2 * q) = 2 * (q * n) + 2 * q := by rw [Int.add_mul, e2, Int.one_mul]
    refine amtL_of (by omega) h0 h1 ?_ ?_
    · rw [e2]
      unfold amtV
      rw [if_neg e, e1]
      split <;> omega
    · rw [e3]
      unfold amtV
      rw [if_neg e, e1]
      split <;> omega
theorem lev_back {l q : Int} (b : Bool) (h0 : -127 ≤ l) (h1 : l ≤ 127) (h2 : 1 ≤ q) (h3 : q ≤ 31) (h4 : -2048 < valV l q) (h5 : valV l q < 2047) : levV (valV l q) q b = l := by
  unfold valV at h4 h5
  unfold levV valV
  rw [clip_of l (-127) 127 h0 h1, clip_of q 1 31 h2 h3] at h4 h5
  rw [clip_of l (-127) 127 h0 h1, clip_of q 1 31 h2 h3]
  by_cases hl : l < 0
  · rw [if_pos hl] at h4 h5 ⊢
    have r := amt_back (n := -l) (q := q) b (by omega) (by omega) h2
    have p := amt_pos (n := -l) (q := q) (by omega) (by omega) h2 h3
    generalize amtV (-l) q = y at *
    have c : clip (-y) (-2048) 2047 = -y := by unfold clip at h4 h5 ⊢; omega
    rw [c, clip_of (-y) (-2048) 2047 (by omega) (by omega)]
    unfold levC
    rw [if_pos (by omega), Int.neg_neg, r]
    omega
  · rw [if_neg hl] at h4 h5 ⊢
    have r := amt_back (n := l) (q := q) b (by omega) (by omega) h2
    have p := (amt_lo (n := l) (q := q) (by omega) (by omega) h2 h3).1
    generalize amtV l q = y at *
    have c : clip y (-2048) 2047 = y := by unfold clip at h4 h5 ⊢; omega
    rw [c, clip_of y (-2048) 2047 (by omega) (by omega)]
    unfold levC
    rw [if_neg (by omega), r]
/-- The amount of a level. -/
def absV (v q : Int) (b : Bool) : Int := amtL (max (clip v (-2048) 2047) (-(clip v (-2048) 2047)) - lessV q b) (2 * q)
theorem abs_within (v q : Int) (b : Bool) (h : 1 ≤ q) : 0 ≤ absV v q b ∧ absV v q b ≤ 127 := ⟨amtL_lo (by omega), amtL_hi _ _⟩
theorem lev_cases (v q : Int) (b : Bool) (h : 1 ≤ q) (h1 : q ≤ 31) : levV v q b = absV v q b ∨ levV v q b = -absV v q b := by
  unfold levV absV levC
  rw [clip_of q 1 31 h h1]
  generalize clip v (-2048) 2047 = x
  by_cases hx : x < 0
  · rw [if_pos hx, show max x (-x) = -x by omega]
    exact Or.inr rfl
  · rw [if_neg hx, show max x (-x) = x by omega]
    exact Or.inl rfl
theorem lev_abs (v q : Int) (b : Bool) (h : 1 ≤ q) (h1 : q ≤ 31) : (if levV v q b < -levV v q b then -levV v q b else levV v q b) = absV v q b := by
  have := abs_within v q b h
  rcases lev_cases v q b h h1 with e | e <;> rw [e] <;> split <;> omega
theorem less_mono {q t : Int} (b : Bool) (h : q ≤ t) : lessV q b ≤ lessV t b := by
  cases b
  · exact (show q / 2 ≤ t / 2 by omega)
  · exact Int.le_refl _
theorem abs_step (v : Int) {q t : Int} (b : Bool) (h : 1 ≤ q) (h1 : q ≤ t) : absV v t b ≤ absV v q b := by
  have l := less_mono b h1
  exact Int.le_trans (amtL_mono (by omega) (by omega)) (amtL_step (by omega) (by omega))
theorem abs_kind (v : Int) {q : Int} (h : 1 ≤ q) : absV v q false ≤ absV v q true := amtL_mono (by omega) (by show _ - q / 2 ≤ _ - 0; omega)

theorem lives_lev : levV 15 5 false = 1 ∧ levV 11 5 false = 0 ∧ levV 11 5 true = 1 ∧ tellV 84 = 11 := by decide +kernel
set_option maxHeartbeats 400000 in
theorem lives13 (w : World) : Calls Try.prog 11 #[] w fun e w' => e = .returned (.bool true) ∧ w = w' := by
  have h1 := inter_code 15 5
  have h2 := inter_code 11 5
  have h3 := intra_code 11 5
  have h4 := tell_code 84
  rw [lives_lev.1] at h1
  rw [lives_lev.2.1] at h2
  rw [lives_lev.2.2.1] at h3
  rw [lives_lev.2.2.2] at h4
  go_enter Try.func11, Try.ntmps11
  go_wp2_with (first
    | (with_reducible refine (h1 _).mono ?_; rintro e w1 ⟨rfl, rfl⟩)
    | (with_reducible refine (h2 _).mono ?_; rintro e w1 ⟨rfl, rfl⟩)
    | (with_reducible refine (h3 _).mono ?_; rintro e w1 ⟨rfl, rfl⟩)
    | (with_reducible refine (h4 _).mono ?_; rintro e w1 ⟨rfl, rfl⟩))
  go_ret
  exact ⟨rfl, rfl⟩
end Go.Proofs.Ytgldkllmabkckaa
