/- The document's own answers on frames: how wide and high, where a sample stands, whether a frame is right, whether two are the same; and the code's for the last. No condition. -/
import Derived.Test.YtnpmllbdpmkliaaPline
import Derived.Test.YtnpmllbdpmkliaaCalm
namespace Go.Proofs.Ytnpmllbdpmkliaa
open Go.RowKit Go.Lib

theorem ret_three {a b c a' b' c' : Int} (h1 : a = a') (h2 : b = b') (h3 : c = c') : Ending.returned (.tuple #[.int .i64 a, .int .i64 b, .int .i64 c]) = .returned (.tuple #[.int .i64 a', .int .i64 b', .int .i64 c']) := by rw [h1, h2, h3]
/-- A number of four, by its place. -/
theorem four_index (a b c d : Int) (w : World) : (Instr.index 49 (.agg #[.int .i64 a, .int .i64 b, .int .i64 c, .int .i64 d]) (.int .i64 0)).run Try.prog w = .ok (.int .i64 a) w ∧
    (Instr.index 49 (.agg #[.int .i64 a, .int .i64 b, .int .i64 c, .int .i64 d]) (.int .i64 1)).run Try.prog w = .ok (.int .i64 b) w := by
  obtain ⟨j, hj⟩ := int_info
  have h0 : (0 : Int) ≤ 0 ∧ (0 : Int) < ((4 : Nat) : Int) := by omega
  have h1 : (0 : Int) ≤ 1 ∧ (1 : Int) < ((4 : Nat) : Int) := by omega
  constructor
  · simp only [Instr.index, asIntOf, Sem.run_bind, Sem.run_pure, Result.andThen_ok, run_underlying Try.underlying49, if_pos h0, run_sizeOf w hj, int_cells, Nat.mul_one]
    exact run_part_plain w int_plain rfl
  · simp only [Instr.index, asIntOf, Sem.run_bind, Sem.run_pure, Result.andThen_ok, run_underlying Try.underlying49, if_pos h1, run_sizeOf w hj, int_cells, Nat.mul_one]
    exact run_part_plain w int_plain rfl
theorem acr_div (k : Int) : (fmtW k).tdiv 16 = (acr k : Int) ∧ (fmtH k).tdiv 16 = (dow k : Int) ∧ (fmtW k).tdiv 2 = ((8 * acr k : Nat) : Int) ∧ (fmtH k).tdiv 2 = ((8 * dow k : Nat) : Int) := by
  obtain ⟨_, _, h3, h4, _⟩ := acr_fmt k
  rw [h3, h4, Int.tdiv_eq_ediv_of_nonneg (by omega), Int.tdiv_eq_ediv_of_nonneg (by omega), Int.tdiv_eq_ediv_of_nonneg (by omega), Int.tdiv_eq_ediv_of_nonneg (by omega)]
  omega
set_option maxRecDepth 100000 in
set_option maxHeartbeats 2000000 in
theorem many_page (k : Int) (w : World) : Calls Try.prog 14 #[.int .i64 k] w fun e w' => e = .returned (.int .i64 (cells k : Int)) ∧ Below w.heap.size w w' := by
  have c := fun w => fpage_code k w
  obtain ⟨d1, d2, -⟩ := acr_div k
  obtain ⟨-, -, -, -, m1, m2⟩ := acr_fmt k
  have hs : (acr k : Int) * (dow k : Int) = (cells k : Int) := (Int.natCast_mul _ _).symm
  have hw : IntKind.i64.wrap (cells k : Int) = (cells k : Int) := wrapN (by have := cells_most k; omega)
  have w1 : IntKind.i64.wrap (acr k : Int) = (acr k : Int) := wrapN (by omega)
  have w2 : IntKind.i64.wrap (dow k : Int) = (dow k : Int) := wrapN (by omega)
  have ix0 := fun w => (four_index (fmtW k) (fmtH k) (fmtR k) (fmtL k) w).1
  have ix1 := fun w => (four_index (fmtW k) (fmtH k) (fmtR k) (fmtL k) w).2
  unfold fmtG at c
  clear m1 m2
  generalize acr k = a at *
  generalize dow k = b at *
  generalize cells k = m at *
  generalize fmtW k = W at *
  generalize fmtH k = H at *
  generalize fmtR k = R at *
  generalize fmtL k = L at *
  go_enter Try.func14, Try.ntmps14
  go_wp2_with fail
  refine (c _).mono ?_
  rintro e x1 ⟨rfl, hb1⟩
  go_wp2_with fail
  refine (c _).mono ?_
  rintro e x2 ⟨rfl, hb2⟩
  go_wp2
  go_ret
  exact ⟨rfl, hb1.trans (hb2.mono hb1.size)⟩
set_option maxRecDepth 100000 in
theorem across_page (k : Int) (w : World) : Calls Try.prog 24 #[.int .i64 k] w fun e w' => e = .returned (.int .i64 (acr k : Int)) ∧ Below w.heap.size w w' := by
  have c := fun w => fpage_code k w
  obtain ⟨d1, -⟩ := acr_div k
  obtain ⟨-, -, -, -, m1, m2⟩ := acr_fmt k
  have w1 : IntKind.i64.wrap (acr k : Int) = (acr k : Int) := wrapN (by omega)
  have ix0 := fun w => (four_index (fmtW k) (fmtH k) (fmtR k) (fmtL k) w).1
  have ix1 := fun w => (four_index (fmtW k) (fmtH k) (fmtR k) (fmtL k) w).2
  unfold fmtG at c
  clear m1 m2
  generalize acr k = a at *
  generalize fmtW k = W at *
  generalize fmtH k = H at *
  generalize fmtR k = R at *
  generalize fmtL k = L at *
  go_enter Try.func24, Try.ntmps24
  go_wp2_with fail
  refine (c _).mono ?_
  rintro e x1 ⟨rfl, hb1⟩
  go_wp2
  go_ret
  exact ⟨rfl, hb1⟩
set_option maxRecDepth 100000 in
set_option maxHeartbeats 1000000 in
theorem wide_page (k : Int) (p : Nat) (hp : p < 3) (w : World) : Calls Try.prog 29 #[.int .i64 k, .int .i64 (p : Int)] w fun e w' => e = .returned (.int .i64 (wid k p : Int)) ∧ Below w.heap.size w w' := by
  have c := fun w => fpage_code k w
  obtain ⟨-, -, d1, -⟩ := acr_div k
  obtain ⟨-, -, h3, -, m1, m2⟩ := acr_fmt k
  have w1 : IntKind.i64.wrap ((8 * acr k : Nat) : Int) = ((8 * acr k : Nat) : Int) := wrapN (by omega)
  have hw : wid k p = if p = 0 then 16 * acr k else 8 * acr k := rfl
  have ix0 := fun w => (four_index (fmtW k) (fmtH k) (fmtR k) (fmtL k) w).1
  have ix1 := fun w => (four_index (fmtW k) (fmtH k) (fmtR k) (fmtL k) w).2
  unfold fmtG at c
  clear m1 m2
  by_cases h0 : p = 0
  · subst h0
    replace hw : ((wid k 0 : Nat) : Int) = fmtW k := by rw [h3]; exact Int.natCast_mul 16 _
    generalize wid k 0 = m at *
    clear d1 w1 h3
    generalize fmtW k = W at *
    subst hw
    go_enter Try.func29, Try.ntmps29
    go_wp2_with fail
    refine (c _).mono ?_
    rintro e x1 ⟨rfl, hb1⟩
    go_wp2
    go_ret
    exact ⟨rfl, hb1⟩
  · have t : ((p : Int) == 0) = false := by simp; omega
    rw [if_neg h0] at hw
    rw [← hw] at d1 w1
    generalize wid k p = m at *
    clear hw h3 h0
    generalize fmtW k = W at *
    go_enter Try.func29, Try.ntmps29
    go_wp2_with fail
    refine (c _).mono ?_
    rintro e x1 ⟨rfl, hb1⟩
    go_wp2
    go_ret
    exact ⟨rfl, hb1⟩
set_option maxRecDepth 100000 in
set_option maxHeartbeats 1000000 in
theorem high_page (k : Int) (p : Nat) (hp : p < 3) (w : World) : Calls Try.prog 30 #[.int .i64 k, .int .i64 (p : Int)] w fun e w' => e = .returned (.int .i64 (hei k p : Int)) ∧ Below w.heap.size w w' := by
  have c := fun w => fpage_code k w
  obtain ⟨-, -, -, d1⟩ := acr_div k
  obtain ⟨-, -, -, h3, m1, m2⟩ := acr_fmt k
  have w1 : IntKind.i64.wrap ((8 * dow k : Nat) : Int) = ((8 * dow k : Nat) : Int) := wrapN (by omega)
  have hw : hei k p = if p = 0 then 16 * dow k else 8 * dow k := rfl
  have ix0 := fun w => (four_index (fmtW k) (fmtH k) (fmtR k) (fmtL k) w).1
  have ix1 := fun w => (four_index (fmtW k) (fmtH k) (fmtR k) (fmtL k) w).2
  unfold fmtG at c
  clear m1 m2
  by_cases h0 : p = 0
  · subst h0
    replace hw : ((hei k 0 : Nat) : Int) = fmtH k := by rw [h3]; exact Int.natCast_mul 16 _
    generalize hei k 0 = m at *
    clear d1 w1 h3
    generalize fmtH k = W at *
    subst hw
    go_enter Try.func30, Try.ntmps30
    go_wp2_with fail
    refine (c _).mono ?_
    rintro e x1 ⟨rfl, hb1⟩
    go_wp2
    go_ret
    exact ⟨rfl, hb1⟩
  · have t : ((p : Int) == 0) = false := by simp; omega
    rw [if_neg h0] at hw
    rw [← hw] at d1 w1
    generalize hei k p = m at *
    clear hw h3 h0
    generalize fmtH k = W at *
    go_enter Try.func30, Try.ntmps30
    go_wp2_with fail
    refine (c _).mono ?_
    rintro e x1 ⟨rfl, hb1⟩
    go_wp2
    go_ret
    exact ⟨rfl, hb1⟩
set_option maxRecDepth 100000 in
set_option maxHeartbeats 4000000 in
theorem place_page (k : Int) (n b i : Nat) (w : World) (hn : n < cells k) (hb : b < 6) (hi : i < 64) : Calls Try.prog 31 #[.int .i64 k, .int .i64 (n : Int), .int .i64 (b : Int), .int .i64 (i : Int)] w fun e w' => e = .returned (.tuple #[.int .i64 (plc b : Int), .int .i64 ((8 * col k n b + i % 8 : Nat) : Int), .int .i64 ((8 * lin k n b + i / 8 : Nat) : Int)]) ∧ Below w.heap.size w w' := by
  have c := fun w => across_page k w
  obtain ⟨-, -, -, -, h1, h2⟩ := acr_fmt k
  obtain ⟨ha, hx, hy⟩ := cell_parts hn
  have hnm := cells_most k
  have L : lin k n b = if b < 4 then 2 * (n / acr k) + b / 2 else n / acr k := rfl
  have C : col k n b = if b < 4 then 2 * (n % acr k) + b % 2 else n % acr k := rfl
  have r1 : (n : Int).tmod (acr k : Int) = ((n % acr k : Nat) : Int) := by rw [Int.tmod_eq_emod_of_nonneg (by omega)]; rfl
  have r2 : (n : Int).tdiv (acr k : Int) = ((n / acr k : Nat) : Int) := by rw [Int.tdiv_eq_ediv_of_nonneg (by omega)]; rfl
  have hd : n / acr k ≤ n := Nat.div_le_self n (acr k)
  have r3 : IntKind.i64.wrap ((n / acr k : Nat) : Int) = ((n / acr k : Nat) : Int) := wrapNat (by omega)
  have r4 : (i : Int).tmod 8 = ((i % 8 : Nat) : Int) := by rw [Int.tmod_eq_emod_of_nonneg (by omega)]; rfl
  have r5 : (i : Int).tdiv 8 = ((i / 8 : Nat) : Int) := by rw [Int.tdiv_eq_ediv_of_nonneg (by omega)]; rfl
  have r6 : IntKind.i64.wrap ((i / 8 : Nat) : Int) = ((i / 8 : Nat) : Int) := wrapNat (by omega)
  have r7 : (i : Int) / 8 = ((i / 8 : Nat) : Int) := rfl
  have r8 : (i : Int) % 8 = ((i % 8 : Nat) : Int) := rfl
  have z0 : ((acr k : Int) == 0) = false := by simp; omega
  have i1 : i % 8 < 8 := Nat.mod_lt _ (by omega)
  have i2 : i / 8 < 8 := by omega
  generalize lin k n b = l at *
  generalize col k n b = cc at *
  generalize n / acr k = y at *
  generalize n % acr k = x at *
  generalize i / 8 = u at *
  generalize i % 8 = v at *
  have hb6 : b = 0 ∨ b = 1 ∨ b = 2 ∨ b = 3 ∨ b = 4 ∨ b = 5 := by omega
  clear hn hb
  rcases hb6 with rfl | rfl | rfl | rfl | rfl | rfl
  case _ =>
    replace L : l = 2 * y := by rw [L, if_pos (by omega)]; all_goals omega
    replace C : cc = 2 * x := by rw [C, if_pos (by omega)]; all_goals omega
    subst L C
    go_enter Try.func31, Try.ntmps31
    go_wp2_with fail
    refine (c _).mono ?_
    rintro e x1 ⟨rfl, hb1⟩
    go_wp2_with fail
    refine (c _).mono ?_
    rintro e x2 ⟨rfl, hb2⟩
    have hbx := hb1.trans (hb2.mono hb1.size)
    clear hb1 hb2
    go_wp2
    go_ret3
    exact ⟨ret_three (by rfl) (by omega) (by omega), hbx⟩
  case _ =>
    replace L : l = 2 * y := by rw [L, if_pos (by omega)]; all_goals omega
    replace C : cc = 2 * x + 1 := by rw [C, if_pos (by omega)]; all_goals omega
    subst L C
    go_enter Try.func31, Try.ntmps31
    go_wp2_with fail
    refine (c _).mono ?_
    rintro e x1 ⟨rfl, hb1⟩
    go_wp2_with fail
    refine (c _).mono ?_
    rintro e x2 ⟨rfl, hb2⟩
    have hbx := hb1.trans (hb2.mono hb1.size)
    clear hb1 hb2
    go_wp2
    go_ret3
    exact ⟨ret_three (by rfl) (by omega) (by omega), hbx⟩
  case _ =>
    replace L : l = 2 * y + 1 := by rw [L, if_pos (by omega)]; all_goals omega
    replace C : cc = 2 * x := by rw [C, if_pos (by omega)]; all_goals omega
    subst L C
    go_enter Try.func31, Try.ntmps31
    go_wp2_with fail
    refine (c _).mono ?_
    rintro e x1 ⟨rfl, hb1⟩
    go_wp2_with fail
    refine (c _).mono ?_
    rintro e x2 ⟨rfl, hb2⟩
    have hbx := hb1.trans (hb2.mono hb1.size)
    clear hb1 hb2
    go_wp2
    go_ret3
    exact ⟨ret_three (by rfl) (by omega) (by omega), hbx⟩
  case _ =>
    replace L : l = 2 * y + 1 := by rw [L, if_pos (by omega)]; all_goals omega
    replace C : cc = 2 * x + 1 := by rw [C, if_pos (by omega)]; all_goals omega
    subst L C
    go_enter Try.func31, Try.ntmps31
    go_wp2_with fail
    refine (c _).mono ?_
    rintro e x1 ⟨rfl, hb1⟩
    go_wp2_with fail
    refine (c _).mono ?_
    rintro e x2 ⟨rfl, hb2⟩
    have hbx := hb1.trans (hb2.mono hb1.size)
    clear hb1 hb2
    go_wp2
    go_ret3
    exact ⟨ret_three (by rfl) (by omega) (by omega), hbx⟩
  case _ =>
    replace L : l = y := by rw [L, if_neg (by omega)]
    replace C : cc = x := by rw [C, if_neg (by omega)]
    subst L C
    go_enter Try.func31, Try.ntmps31
    go_wp2_with fail
    refine (c _).mono ?_
    rintro e x1 ⟨rfl, hb1⟩
    go_wp2_with fail
    refine (c _).mono ?_
    rintro e x2 ⟨rfl, hb2⟩
    have hbx := hb1.trans (hb2.mono hb1.size)
    clear hb1 hb2
    go_wp2
    go_ret3
    exact ⟨ret_three (by rfl) (by omega) (by omega), hbx⟩
  case _ =>
    replace L : l = y := by rw [L, if_neg (by omega)]
    replace C : cc = x := by rw [C, if_neg (by omega)]
    subst L C
    go_enter Try.func31, Try.ntmps31
    go_wp2_with fail
    refine (c _).mono ?_
    rintro e x1 ⟨rfl, hb1⟩
    go_wp2_with fail
    refine (c _).mono ?_
    rintro e x2 ⟨rfl, hb2⟩
    have hbx := hb1.trans (hb2.mono hb1.size)
    clear hb1 hb2
    go_wp2
    go_ret3
    exact ⟨ret_three (by rfl) (by omega) (by omega), hbx⟩
set_option maxRecDepth 100000 in
set_option maxHeartbeats 2000000 in
/-- A sample of a plane. -/
theorem at_page (k : Int) (v : Nat → Value) (n p x y : Nat) (f : Nat → Int) (w : World) (hp : p < 3) (hv : BtAt w (v p) n f) (hn : n ≤ 1073741824) (h : y * wid k p + x < n) :
    Calls Try.prog 44 #[.agg (frA k v), .int .i64 (p : Int), .int .i64 (x : Int), .int .i64 (y : Int)] w fun e w' => e = .returned (.int .i64 (f (y * wid k p + x))) ∧ Below w.heap.size w w' := by
  obtain ⟨a, cp, hvp, hcp, hd⟩ := hv
  obtain ⟨b, o, rfl, hc⟩ : ∃ b o, a = some ⟨b, o, none⟩ ∧ ∀ i, i < n → w.cell? ⟨b, o + i, none⟩ = some (.int .u8 (f i)) ∧ 0 ≤ f i ∧ f i ≤ 255 := by
    rcases hd with h0 | h0
    · omega
    · exact h0
  obtain ⟨q1, q2⟩ := hc _ h
  obtain ⟨m, hm⟩ : ∃ m, y * wid k p = m := ⟨_, rfl⟩
  rw [hm] at h q1 q2 ⊢
  have M : (y : Int) * (wid k p : Int) = (m : Int) := by rw [← hm]; exact (Int.natCast_mul _ _).symm
  obtain ⟨s, hs⟩ : ∃ s, m + x = s := ⟨_, rfl⟩
  rw [hs] at h q1 q2 ⊢
  have S : (m : Int) + (x : Int) = (s : Int) := by omega
  have W1 : IntKind.i64.wrap (m : Int) = (m : Int) := wrapNat (by omega)
  have W2 : IntKind.i64.wrap (s : Int) = (s : Int) := wrapNat (by omega)
  have W3 : IntKind.i64.wrap (f s) = f s := wrapN (by omega)
  obtain ⟨B, hB⟩ : ∃ B, w.heap.size = B := ⟨_, rfl⟩
  obtain ⟨wA, hwA⟩ : ∃ wA, w.alloc (.cells (frA k v) 29 (0, 0)) = wA := ⟨_, rfl⟩
  have hA0 : wA.heap[B]? = some (frO 29 k v) := by rw [← hwA, ← hB]; exact heap_alloc_new w _
  have hbA : Below B w wA := by rw [← hwA, ← hB]; exact (Below.refl _ w).alloc (Nat.le_refl _) _
  have hzA : wA.heap.size = B + 1 := by rw [← hwA, ← hB]; simp
  have hq := World.block_lt_of_cell? w ⟨b, o + s, none⟩ q1
  have HF := Lib.hid (fun (x : World) (hx : Below (B + 1) wA x) => (⟨fr_cell0 ((hx.block B (by omega)).trans hA0), (fr_cell ((hx.block B (by omega)).trans hA0) hp).trans (by rw [hvp])⟩ : x.cell? ⟨B, 0, none⟩ = some (.int .i64 k) ∧ x.cell? ⟨B, 1 + p, none⟩ = some (.slice (some ⟨b, o, none⟩) n cp)))
  have HG := Lib.hid (fun (x : World) (hx : Below (B + 1) wA x) => ((hx.cell (p := ⟨b, o + s, none⟩) (by show b < _; rw [hB] at hq; exact Nat.lt_succ_of_lt hq)).trans ((hbA.cell (p := ⟨b, o + s, none⟩) (by rw [← hB]; exact hq)).trans q1) : x.cell? ⟨b, o + s, none⟩ = some (.int .u8 (f s))))
  have C1 := Lib.hid (fun (x : World) (hx : Below (B + 1) wA x) => ((wide_page k p hp x).mono fun e y h => ⟨h.1, hx.trans (h.2.mono (by have := hx.size; omega))⟩ : Calls Try.prog 29 #[.int .i64 k, .int .i64 (p : Int)] x fun e y => e = .returned (.int .i64 (wid k p : Int)) ∧ Below (B + 1) wA y))
  have HWA := Lib.hid hwA
  have HB := Lib.hid hB
  have HBA := Lib.hid hbA
  generalize f s = z at *
  generalize wid k p = W at *
  generalize frA k v = X at *
  clear hm hc hA0 hbA hzA hq hwA hB q1 hvp hd
  go_enter Try.func44, Try.ntmps44
  go_wp2
  rw [HWA.out, HB.out]
  refine wp_region_calm (S := fun x => Below (B + 1) wA x) 16 (by kernel_rfl) (by kernel_rfl) (Below.refl _ _).drew ?_
  simp only [List.take_succ_cons, List.take_zero, List.drop_succ_cons, List.drop_zero]
  refine calm_value (v := ?v0) (by kernel_rfl) ?m ?_; (case m => (intro x _; go_simp; try with_reducible rfl))
  simp only [Act.put, List.setIfInBounds_toArray, List.set_cons_zero, List.set_cons_succ]
  refine calm_value (v := ?v1) (by kernel_rfl) ?m ?_; (case m => (intro x _; go_simp; try with_reducible rfl))
  simp only [Act.put, List.setIfInBounds_toArray, List.set_cons_zero, List.set_cons_succ]
  refine calm_value (v := ?v2) (by kernel_rfl) ?m ?_; (case m => (intro x _; go_simp; rw [if_pos (by omega)]))
  simp only [Act.put, List.setIfInBounds_toArray, List.set_cons_zero, List.set_cons_succ]
  refine calm_cell 26 _ ⟨B, 1 + p, none⟩ (.slice (some ⟨b, o, none⟩) n cp) (by kernel_rfl) rfl rfl (fun x hx => by have c0 := (HF.out x hx).2; go_simp) ?_
  simp only [Act.put, List.setIfInBounds_toArray, List.set_cons_zero, List.set_cons_succ]
  refine calm_value (v := ?v4) (by kernel_rfl) ?m ?_; (case m => (intro x _; go_simp; try with_reducible rfl))
  simp only [Act.put, List.setIfInBounds_toArray, List.set_cons_zero, List.set_cons_succ]
  refine calm_value (v := ?v5) (by kernel_rfl) ?m ?_; (case m => (intro x _; go_simp; try with_reducible rfl))
  simp only [Act.put, List.setIfInBounds_toArray, List.set_cons_zero, List.set_cons_succ]
  refine calm_cell 3 _ ⟨B, 0, none⟩ (.int .i64 k) (by kernel_rfl) rfl rfl (fun x hx => by have c0 := (HF.out x hx).1; go_simp) ?_
  simp only [Act.put, List.setIfInBounds_toArray, List.set_cons_zero, List.set_cons_succ]
  refine calm_value (v := ?v7) (by kernel_rfl) ?m ?_; (case m => (intro x _; go_simp; try with_reducible rfl))
  simp only [Act.put, List.setIfInBounds_toArray, List.set_cons_zero, List.set_cons_succ]
  refine calm_call (by kernel_rfl) C1.out (fun _ => by kernel_rfl) ?_
  simp only [Act.put, List.setIfInBounds_toArray, List.set_cons_zero, List.set_cons_succ]
  refine calm_value (v := ?v9) (by kernel_rfl) ?m ?_; (case m => (intro x _; go_simp; try with_reducible rfl))
  simp only [Act.put, List.setIfInBounds_toArray, List.set_cons_zero, List.set_cons_succ]
  refine calm_value (v := ?v10) (by kernel_rfl) ?m ?_; (case m => (intro x _; go_simp; try with_reducible rfl))
  simp only [Act.put, List.setIfInBounds_toArray, List.set_cons_zero, List.set_cons_succ]
  refine calm_value (v := ?v11) (by kernel_rfl) ?m ?_; (case m => (intro x _; go_simp; try with_reducible rfl))
  simp only [Act.put, List.setIfInBounds_toArray, List.set_cons_zero, List.set_cons_succ]
  refine calm_value (v := ?v12) (by kernel_rfl) ?m ?_; (case m => (intro x _; go_simp; try with_reducible rfl))
  simp only [Act.put, List.setIfInBounds_toArray, List.set_cons_zero, List.set_cons_succ]
  refine calm_cell 5 _ ⟨b, o + s, none⟩ (.int .u8 z) (by kernel_rfl) rfl rfl (fun x hx => by have c0 := (HG.out x hx); go_simp) ?_
  simp only [Act.put, List.setIfInBounds_toArray, List.set_cons_zero, List.set_cons_succ]
  refine calm_value (v := ?v14) (by kernel_rfl) ?m ?_; (case m => (intro x _; go_simp; try with_reducible rfl))
  simp only [Act.put, List.setIfInBounds_toArray, List.set_cons_zero, List.set_cons_succ]
  refine calm_value (v := ?v15) (by kernel_rfl) ?m ?_; (case m => (intro x _; go_simp; try with_reducible rfl))
  simp only [Act.put, List.setIfInBounds_toArray, List.set_cons_zero, List.set_cons_succ]
  refine calm_nil fun x hx => ?_
  go_wp2
  go_ret
  exact ⟨rfl, by rw [HB.out]; exact HBA.out.trans (hx.mono (by omega))⟩
end Go.Proofs.Ytnpmllbdpmkliaa
