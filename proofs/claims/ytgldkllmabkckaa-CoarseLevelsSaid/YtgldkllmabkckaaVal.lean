/- Package scale and the document's own answer of layer 12: the value of a level, by a quantiser; that of a first number. No condition. -/
import Derived.Test.YtgldkllmabkckaaClip
namespace Go.Proofs.Ytgldkllmabkckaa
open Go.RowKit

/-- The amount of the value of an amount. -/
def amtV (n q : Int) : Int := if n = 0 then 0 else if q % 2 = 0 then q * (2 * n + 1) - 1 else q * (2 * n + 1)
theorem amt_prod {n q : Int} (h0 : 0 ≤ n) (h1 : n ≤ 127) (h2 : 1 ≤ q) (h3 : q ≤ 31) : 1 ≤ q * (2 * n + 1) ∧ q * (2 * n + 1) ≤ 7905 := by
  have a := Int.mul_le_mul h2 (show (1 : Int) ≤ 2 * n + 1 by omega) (by omega) (by omega)
  have b := Int.mul_le_mul h3 (show 2 * n + 1 ≤ 255 by omega) (by omega) (by omega)
  omega
theorem amt_zero (q : Int) : amtV 0 q = 0 := rfl
theorem amt_lo {n q : Int} (h0 : 0 ≤ n) (h1 : n ≤ 127) (h2 : 1 ≤ q) (h3 : q ≤ 31) : 0 ≤ amtV n q ∧ amtV n q ≤ 7905 := by
  have h := amt_prod h0 h1 h2 h3
  unfold amtV
  split
  · omega
  · split <;> omega
theorem amt_pos {n q : Int} (h0 : 1 ≤ n) (h1 : n ≤ 127) (h2 : 1 ≤ q) (h3 : q ≤ 31) : 2 ≤ amtV n q := by
  have a := Int.mul_le_mul h2 (show (3 : Int) ≤ 2 * n + 1 by omega) (by omega) (by omega)
  unfold amtV
  rw [if_neg (by omega)]
  split <;> omega
theorem amt_mono {a b q : Int} (h0 : 0 ≤ a) (h1 : a ≤ b) (h4 : b ≤ 127) (h2 : 1 ≤ q) (h3 : q ≤ 31) : amtV a q ≤ amtV b q := by
  have m := Int.mul_le_mul_of_nonneg_left (show 2 * a + 1 ≤ 2 * b + 1 by omega) (show 0 ≤ q by omega)
  have p := amt_prod (show 0 ≤ b by omega) h4 h2 h3
  have l := amt_lo (show 0 ≤ b by omega) h4 h2 h3
  by_cases e : a = 0
  · rw [e, amt_zero]; exact l.1
  · unfold amtV
    rw [if_neg e, if_neg (show ¬ b = 0 by omega)]
    by_cases e2 : q % 2 = 0
    · rw [if_pos e2, if_pos e2]; omega
    · rw [if_neg e2, if_neg e2]; omega
/-- The value of a level. -/
def valV (l q : Int) : Int := clip (if clip l (-127) 127 < 0 then -(amtV (-(clip l (-127) 127)) (clip q 1 31)) else amtV (clip l (-127) 127) (clip q 1 31)) (-2048) 2047
/-- The value of a first number. -/
def dcV (d : Int) : Int := 8 * clip d 1 254
theorem val_within (l q : Int) : -2048 ≤ valV l q ∧ valV l q ≤ 2047 := ⟨clip_lo _ _ _, clip_hi _ _ _ (by omega)⟩
theorem clip_mono {a b lo hi : Int} (h : a ≤ b) : clip a lo hi ≤ clip b lo hi := by unfold clip; omega
theorem val_sign (l q : Int) : (0 < valV l q ↔ 0 < l) ∧ (valV l q < 0 ↔ l < 0) := by
  have q1 := clip_lo q 1 31
  have q2 := clip_hi q 1 31 (by omega)
  have l1 := clip_lo l (-127) 127
  have l2 := clip_hi l (-127) 127 (by omega)
  have s : (0 < clip l (-127) 127 ↔ 0 < l) ∧ (clip l (-127) 127 < 0 ↔ l < 0) := by unfold clip; omega
  unfold valV
  generalize clip q 1 31 = qq at *
  generalize clip l (-127) 127 = n at *
  by_cases hn : n < 0
  · have a := amt_pos (n := -n) (q := qq) (by omega) (by omega) q1 q2
    rw [if_pos hn]
    generalize amtV (-n) qq = y at *
    unfold clip
    omega
  · rw [if_neg hn]
    by_cases h0 : n = 0
    · rw [h0, amt_zero]
      unfold clip
      omega
    · have a := amt_pos (n := n) (q := qq) (by omega) (by omega) q1 q2
      generalize amtV n qq = y at *
      unfold clip
      omega
theorem val_mono {a b : Int} (q : Int) (h : a ≤ b) : valV a q ≤ valV b q := by
  have q1 := clip_lo q 1 31
  have q2 := clip_hi q 1 31 (by omega)
  have a1 := clip_lo a (-127) 127
  have a2 := clip_hi a (-127) 127 (by omega)
  have b1 := clip_lo b (-127) 127
  have b2 := clip_hi b (-127) 127 (by omega)
  have s : clip a (-127) 127 ≤ clip b (-127) 127 := clip_mono h
  unfold valV
  generalize clip q 1 31 = qq at *
  generalize clip a (-127) 127 = x at *
  generalize clip b (-127) 127 = y at *
  refine clip_mono ?_
  by_cases hx : x < 0
  · rw [if_pos hx]
    have := (amt_lo (n := -x) (q := qq) (by omega) (by omega) q1 q2).1
    by_cases hy : y < 0
    · rw [if_pos hy]
      have := amt_mono (a := -y) (b := -x) (q := qq) (by omega) (by omega) (by omega) q1 q2
      omega
    · rw [if_neg hy]
      have := (amt_lo (n := y) (q := qq) (by omega) (by omega) q1 q2).1
      omega
  · rw [if_neg hx, if_neg (by omega)]
    exact amt_mono (by omega) s b2 q1 q2

/-! ### By the code -/
theorem tmod_two {q : Int} (h : 0 ≤ q) : q.tmod 2 = q % 2 := Int.tmod_eq_emod_of_nonneg h
set_option maxHeartbeats 400000 in
theorem amt_code (n q : Int) (h0 : 0 ≤ n) (h1 : n ≤ 127) (h2 : 1 ≤ q) (h3 : q ≤ 31) (w : World) :
    Calls Try.prog 20 #[.int .i64 n, .int .i64 q] w fun e w' => e = .returned (.int .i64 (amtV n q)) ∧ w = w' := by
  obtain ⟨p1, p2⟩ := amt_prod h0 h1 h2 h3
  have ht := tmod_two (q := q) (by omega)
  by_cases e0 : n = 0
  · subst e0
    clear ht p1 p2
    go_enter Try.func20, Try.ntmps20
    go_wp2
    go_ret
    exact ⟨rfl, rfl⟩
  · have t0 : (n == 0) = false := by simpa using e0
    have F : amtV n q = if q % 2 = 0 then q * (2 * n + 1) - 1 else q * (2 * n + 1) := by unfold amtV; rw [if_neg e0]
    by_cases e1 : q % 2 = 0
    · rw [if_pos e1] at F
      rw [e1] at ht
      have HF := Lib.hid F
      clear F e1 e0
      go_enter Try.func20, Try.ntmps20
      go_wp2
      go_ret
      exact ⟨ret_int HF.out.symm, rfl⟩
    · rw [if_neg e1] at F
      have e2 : q % 2 = 1 := by omega
      rw [e2] at ht
      have HF := Lib.hid F
      clear F e1 e0 e2
      go_enter Try.func20, Try.ntmps20
      go_wp2
      go_ret
      exact ⟨ret_int HF.out.symm, rfl⟩
set_option maxHeartbeats 400000 in
theorem val_code (l q : Int) (w : World) : Calls Try.prog 14 #[.int .i64 l, .int .i64 q] w fun e w' => e = .returned (.int .i64 (valV l q)) ∧ w = w' := by
  have q1 := clip_lo q 1 31
  have q2 := clip_hi q 1 31 (by omega)
  have l1 := clip_lo l (-127) 127
  have l2 := clip_hi l (-127) 127 (by omega)
  have c1 := fun w => clip_code q 1 31 w
  have c2 := fun w => clip_code l (-127) 127 w
  have F : valV l q = clip (if clip l (-127) 127 < 0 then -(amtV (-(clip l (-127) 127)) (clip q 1 31)) else amtV (clip l (-127) 127) (clip q 1 31)) (-2048) 2047 := rfl
  generalize clip q 1 31 = qq at *
  generalize clip l (-127) 127 = n at *
  by_cases hn : n < 0
  · rw [if_pos hn] at F
    have a1 := amt_lo (n := -n) (q := qq) (by omega) (by omega) q1 q2
    have c3 := fun w => amt_code (-n) qq (by omega) (by omega) q1 q2 w
    generalize amtV (-n) qq = y at *
    have c4 := fun w => clip_code (-y) (-2048) 2047 w
    rw [← F] at c4
    clear F
    have t0 : decide (n < 0) = true := by simpa using hn
    go_enter Try.func14, Try.ntmps14
    go_wp2_with (first
      | (with_reducible refine (c1 _).mono ?_; rintro e w1 ⟨rfl, rfl⟩)
      | (with_reducible refine (c2 _).mono ?_; rintro e w1 ⟨rfl, rfl⟩)
      | (with_reducible refine (c3 _).mono ?_; rintro e w1 ⟨rfl, rfl⟩)
      | (with_reducible refine (c4 _).mono ?_; rintro e w1 ⟨rfl, rfl⟩))
    all_goals (go_ret; exact ⟨rfl, rfl⟩)
  · rw [if_neg hn] at F
    have a1 := amt_lo (n := n) (q := qq) (by omega) (by omega) q1 q2
    have c3 := fun w => amt_code n qq (by omega) (by omega) q1 q2 w
    generalize amtV n qq = y at *
    have c4 := fun w => clip_code y (-2048) 2047 w
    rw [← F] at c4
    clear F
    have t0 : decide (n < 0) = false := by simpa using hn
    go_enter Try.func14, Try.ntmps14
    go_wp2_with (first
      | (with_reducible refine (c1 _).mono ?_; rintro e w1 ⟨rfl, rfl⟩)
      | (with_reducible refine (c2 _).mono ?_; rintro e w1 ⟨rfl, rfl⟩)
      | (with_reducible refine (c3 _).mono ?_; rintro e w1 ⟨rfl, rfl⟩)
      | (with_reducible refine (c4 _).mono ?_; rintro e w1 ⟨rfl, rfl⟩))
    all_goals (go_ret; exact ⟨rfl, rfl⟩)
theorem lives_val : valV 1 5 = 15 ∧ valV (-1) 4 = -11 ∧ valV 127 31 = 2047 ∧ dcV 10 = 80 := by decide +kernel
end Go.Proofs.Ytgldkllmabkckaa
