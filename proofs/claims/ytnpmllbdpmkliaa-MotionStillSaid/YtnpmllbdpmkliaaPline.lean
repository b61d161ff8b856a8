/- Package planes: a line of a block; whether a frame is right, whether two are the same; the document's own answers. No condition. -/
import Derived.Test.YtnpmllbdpmkliaaPcode
namespace Go.Proofs.Ytnpmllbdpmkliaa
open Go.RowKit Go.Lib

set_option maxRecDepth 100000 in
set_option maxHeartbeats 2000000 in
theorem line_code (p F W y n o c b : Nat) (v : Nat → Value) (w : World) (hp : p < 3) (hv : v p = .slice (some ⟨b, o, none⟩) n c) (hc : n ≤ c) (hF : F + y * W + 8 ≤ n) (hn : n ≤ 1073741824) :
    Calls Try.prog 37 #[.agg (areaA p F W), .agg #[v 0, v 1, v 2], .int .i64 (y : Int)] w fun e w' => e = .returned (.slice (some ⟨b, o + (F + y * W), none⟩) 8 (c - (F + y * W))) ∧ Below w.heap.size w w' := by
  have hb2 : ∀ o1 o2, Below w.heap.size w ((w.alloc o1).alloc o2) := fun o1 o2 => ((Below.refl _ w).alloc (Nat.le_refl _) _).alloc (by simp) _
  obtain ⟨m, hm⟩ : ∃ m, y * W = m := ⟨_, rfl⟩
  rw [hm] at hF ⊢
  have M : (y : Int) * (W : Int) = (m : Int) := by rw [← hm]; exact (Int.natCast_mul _ _).symm
  unfold areaA
  clear hm
  have hp3 : p = 0 ∨ p = 1 ∨ p = 2 := by omega
  obtain ⟨s, hs⟩ : ∃ s, F + m = s := ⟨_, rfl⟩
  have S : (F : Int) + (m : Int) = (s : Int) := by omega
  rw [hs]
  have t1 : (c == s) = false := by simp; omega
  rcases hp3 with rfl | rfl | rfl
  all_goals
    rw [hv]
    clear hv
    try generalize v 0 = v0
    try generalize v 1 = v1
    try generalize v 2 = v2
    go_enter Try.func37, Try.ntmps37
    go_wp2
    rw [show s + 8 - s = 8 by omega]
    go_ret
    exact ⟨rfl, hb2 _ _⟩

/-- Is a frame right? -/
def rightF (k : Int) (n : Nat → Nat) : Bool := isFmt k && (decide (n 0 = siz k 0) && (decide (n 1 = siz k 1) && decide (n 2 = siz k 2)))
theorem rightF_iff {k : Int} {n : Nat → Nat} : rightF k n = true ↔ isFmt k = true ∧ ∀ p, p < 3 → n p = siz k p := by
  unfold rightF
  simp only [Bool.and_eq_true, decide_eq_true_iff]
  constructor
  · rintro ⟨h, h0, h1, h2⟩
    refine ⟨h, fun p hp => ?_⟩
    match p, hp with
    | 0, _ => exact h0
    | 1, _ => exact h1
    | 2, _ => exact h2
  · rintro ⟨h, hp⟩
    exact ⟨h, hp 0 (by omega), hp 1 (by omega), hp 2 (by omega)⟩
theorem neq_len {a b : Nat} (h : a = b) : ((a : Int) != (b : Int)) = false := by simp [h]
theorem neq_not {a b : Nat} (h : a ≠ b) : ((a : Int) != (b : Int)) = true := by simp [bne]; omega
set_option maxRecDepth 100000 in
set_option maxHeartbeats 2000000 in
theorem frright_code (k : Int) (v : Nat → Value) (n : Nat → Nat) (w : World) (hv : ∀ p, p < 3 → ∃ a c, v p = .slice a (n p) c) :
    Calls Try.prog 16 #[.agg (frA k v)] w fun e w' => e = .returned (.bool (rightF k n)) ∧ Below w.heap.size w w' := by
  have hb1 : ∀ o, Below w.heap.size w (w.alloc o) := fun o => (Below.refl _ w).alloc (Nat.le_refl _) _
  have c0 : ∀ w, Calls Try.prog 33 #[.int .i64 k, .int .i64 0] w fun e w' => e = .returned (.int .i64 (siz k 0 : Int)) ∧ w = w' := fun w => samples_code k 0 (by omega) w
  have c1 : ∀ w, Calls Try.prog 33 #[.int .i64 k, .int .i64 1] w fun e w' => e = .returned (.int .i64 (siz k 1 : Int)) ∧ w = w' := fun w => samples_code k 1 (by omega) w
  have c2 : ∀ w, Calls Try.prog 33 #[.int .i64 k, .int .i64 2] w fun e w' => e = .returned (.int .i64 (siz k 2 : Int)) ∧ w = w' := fun w => samples_code k 2 (by omega) w
  have c3 := fun w => isformat_code k w
  have hR := Lib.hid (show rightF k n = (isFmt k && (decide (n 0 = siz k 0) && (decide (n 1 = siz k 1) && decide (n 2 = siz k 2)))) from rfl)
  obtain ⟨a0, b0, hv0⟩ := hv 0 (by omega)
  obtain ⟨a1, b1, hv1⟩ := hv 1 (by omega)
  obtain ⟨a2, b2, hv2⟩ := hv 2 (by omega)
  have x0 : ∀ w, (Instr.index 27 (.agg #[v 0, v 1, v 2]) (.int .i64 0)).run Try.prog w = .ok (v 0) w := fun w => fr_index v (p := 0) (by omega) w
  have x1 : ∀ w, (Instr.index 27 (.agg #[v 0, v 1, v 2]) (.int .i64 1)).run Try.prog w = .ok (v 1) w := fun w => fr_index v (p := 1) (by omega) w
  have x2 : ∀ w, (Instr.index 27 (.agg #[v 0, v 1, v 2]) (.int .i64 2)).run Try.prog w = .ok (v 2) w := fun w => fr_index v (p := 2) (by omega) w
  unfold frA frL
  rw [hv0, hv1, hv2] at x0 x1 x2 ⊢
  clear hv hv0 hv1 hv2
  generalize isFmt k = y at *
  generalize rightF k n = z at *
  generalize siz k 0 = s0 at *
  generalize siz k 1 = s1 at *
  generalize siz k 2 = s2 at *
  generalize n 0 = n0 at *
  generalize n 1 = n1 at *
  generalize n 2 = n2 at *
  go_enter Try.func16, Try.ntmps16
  go_wp2
  go_loopw [7] (fun z wr => ∃ i : Nat, i ≤ 3 ∧ z = .int .i64 i ∧ wr = w.alloc (.cells #[.int .i64 k, .slice a0 n0 b0, .slice a1 n1 b1, .slice a2 n2 b2] 29 (0, 0)) ∧ Hid ((1 ≤ i → n0 = s0) ∧ (2 ≤ i → n1 = s1) ∧ (3 ≤ i → n2 = s2))) (fun z _ => 3 - (intOf z).toNat)
  case atStart => exact ⟨0, by omega, rfl, rfl, by show _ ∧ _; omega⟩
  case round =>
    obtain ⟨i, hi, rfl, rfl, HH⟩ := hrel
    obtain ⟨k0, k1, k2⟩ := HH.out
    clear HH
    have hi4 : i = 0 ∨ i = 1 ∨ i = 2 ∨ i = 3 := by omega
    rcases hi4 with rfl | rfl | rfl | rfl
    case _ =>
      by_cases e : n0 = s0
      · have t := neq_len e
        have HE := Lib.hid e
        clear e k0 k1 k2
        go_wp2_with (with_reducible refine (c0 _).mono ?_; rintro e w1 ⟨rfl, rfl⟩)
        go_roundw
        case rel => exact ⟨1, by omega, rfl, (by trivial), ⟨fun _ => HE.out, by omega, by omega⟩⟩
        case measure => simp [intOf]
      · have t := neq_not e
        go_wp2_with (with_reducible refine (c0 _).mono ?_; rintro e w1 ⟨rfl, rfl⟩)
        go_ret
        exact ⟨ret_bool (by rw [hR.out, decide_eq_false e]; simp), hb1 _⟩
    case _ =>
      have e0 := k0 (by omega)
      by_cases e : n1 = s1
      · have t := neq_len e
        have HE := Lib.hid e
        have HE0 := Lib.hid e0
        clear e e0 k0 k1 k2
        go_wp2_with (with_reducible refine (c1 _).mono ?_; rintro e w1 ⟨rfl, rfl⟩)
        go_roundw
        case rel => exact ⟨2, by omega, rfl, (by trivial), ⟨fun _ => HE0.out, fun _ => HE.out, by omega⟩⟩
        case measure => simp [intOf]
      · have t := neq_not e
        clear e0 k0 k1 k2
        go_wp2_with (with_reducible refine (c1 _).mono ?_; rintro e w1 ⟨rfl, rfl⟩)
        go_ret
        exact ⟨ret_bool (by rw [hR.out, decide_eq_false e]; simp), hb1 _⟩
    case _ =>
      have e0 := k0 (by omega)
      have e1 := k1 (by omega)
      by_cases e : n2 = s2
      · have t := neq_len e
        have HE := Lib.hid e
        have HE0 := Lib.hid e0
        have HE1 := Lib.hid e1
        clear e e0 e1 k0 k1 k2
        go_wp2_with (with_reducible refine (c2 _).mono ?_; rintro e w1 ⟨rfl, rfl⟩)
        go_roundw
        case rel => exact ⟨3, by omega, rfl, (by trivial), ⟨fun _ => HE0.out, fun _ => HE1.out, fun _ => HE.out⟩⟩
        case measure => simp [intOf]
      · have t := neq_not e
        clear e0 e1 k0 k1 k2
        go_wp2_with (with_reducible refine (c2 _).mono ?_; rintro e w1 ⟨rfl, rfl⟩)
        go_ret
        exact ⟨ret_bool (by rw [hR.out, decide_eq_false e]; simp), hb1 _⟩
    case _ =>
      have e0 := k0 (by omega)
      have e1 := k1 (by omega)
      have e2 := k2 (by omega)
      subst e0 e1 e2
      clear k0 k1 k2
      go_wp2_with (with_reducible refine (c3 _).mono ?_; rintro e w1 ⟨rfl, rfl⟩)
      go_ret
      exact ⟨ret_bool (by rw [hR.out]; simp), hb1 _⟩
end Go.Proofs.Ytnpmllbdpmkliaa
