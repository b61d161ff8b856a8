/- Package planes: the small functions: how many samples, is there a cell, where a block stands, a line of it; whether a frame is right, whether two are the same. No condition. -/
import Derived.Test.YtnpmllbdpmkliaaPmem
import Derived.Test.YtnpmllbdpmkliaaClip
import Derived.WalkMore
import Derived.Laws.Slices
namespace Go.Proofs.Ytnpmllbdpmkliaa
open Go.RowKit Go.Lib

theorem wrapN {n : Int} (h : -9223372036854775808 ≤ n ∧ n ≤ 9223372036854775807) : IntKind.i64.wrap n = n := by
  rw [IntKind.wrap_i64]
  omega
theorem wrapNat {n : Nat} (h : n ≤ 9223372036854775807) : IntKind.i64.wrap (n : Int) = (n : Int) := wrapN (by omega)
theorem clipped_code (s : Int) (w : World) : Calls Try.prog 39 #[.int .i64 s] w fun e w' => e = .returned (.int .u8 (clip s 0 255)) ∧ w = w' := by
  have c := fun w => clip_code s 0 255 w
  have h1 := clip_lo s 0 255
  have h2 := clip_hi s 0 255 (by omega)
  generalize clip s 0 255 = y at c h1 h2 ⊢
  have hw : IntKind.u8.wrap y = y := by rw [IntKind.wrap_u8]; omega
  go_enter Try.func39, Try.ntmps39
  go_wp2_with (with_reducible refine (c _).mono ?_; rintro e w1 ⟨rfl, rfl⟩)
  go_ret
  exact ⟨rfl, rfl⟩
theorem samples_code (k : Int) (p : Nat) (hp : p < 3) (w : World) : Calls Try.prog 33 #[.int .i64 k, .int .i64 (p : Int)] w fun e w' => e = .returned (.int .i64 (siz k p : Int)) ∧ w = w' := by
  have c := fun w => fplane_code k p w
  rw [fmtP_at k p hp] at c
  have hs : (wid k p : Int) * (hei k p : Int) = (siz k p : Int) := (Int.natCast_mul _ _).symm
  have hw : IntKind.i64.wrap (siz k p : Int) = (siz k p : Int) := wrapN (by have := siz_most k p; omega)
  generalize wid k p = a at *
  generalize hei k p = b at *
  generalize siz k p = m at *
  go_enter Try.func33, Try.ntmps33
  go_wp2_with (with_reducible refine (c _).mono ?_; rintro e w1 ⟨rfl, rfl⟩)
  go_ret
  exact ⟨rfl, rfl⟩
theorem isformat_code (k : Int) (w : World) : Calls Try.prog 34 #[.int .i64 k] w fun e w' => e = .returned (.bool (isFmt k)) ∧ w = w' := by
  have c := fun w => fsize_code k w
  generalize isFmt k = y at *
  generalize fmtW k = a at *
  generalize fmtH k = b at *
  go_enter Try.func34, Try.ntmps34
  go_wp2_with (with_reducible refine (c _).mono ?_; rintro e w1 ⟨rfl, rfl⟩)
  go_ret
  exact ⟨rfl, rfl⟩
/-- Is there such a cell? -/
def hasC (k n : Int) : Bool := decide (0 ≤ n) && decide (n < (cells k : Int))
theorem hasC_iff {k n : Int} : hasC k n = true ↔ 0 ≤ n ∧ n.toNat < cells k := by
  unfold hasC
  simp
  omega
theorem hascell_code (k n : Int) (w : World) : Calls Try.prog 35 #[.int .i64 k, .int .i64 n] w fun e w' => e = .returned (.bool (hasC k n)) ∧ w = w' := by
  have c := fun w => fcells_code k w
  obtain ⟨h1, h2, _⟩ := acr_fmt k
  rw [← h1, ← h2] at c
  have hs : (acr k : Int) * (dow k : Int) = (cells k : Int) := (Int.natCast_mul _ _).symm
  have hw : IntKind.i64.wrap (cells k : Int) = (cells k : Int) := wrapN (by have := cells_most k; omega)
  have hq := Lib.hid (show hasC k n = (decide (0 ≤ n) && decide (n < (cells k : Int))) from rfl)
  generalize hasC k n = y at *
  clear h1 h2
  generalize acr k = a at *
  generalize dow k = b at *
  generalize cells k = m at *
  cases t0 : decide (0 ≤ n)
  · rw [t0] at hq
    go_enter Try.func35, Try.ntmps35
    go_wp2_with (with_reducible refine (c _).mono ?_; rintro e w1 ⟨rfl, rfl⟩)
    go_ret
    exact ⟨ret_bool (by rw [hq.out]; rfl), rfl⟩
  · rw [t0] at hq
    go_enter Try.func35, Try.ntmps35
    go_wp2_with (with_reducible refine (c _).mono ?_; rintro e w1 ⟨rfl, rfl⟩)
    go_ret
    exact ⟨ret_bool (by rw [hq.out]; rfl), rfl⟩

/-! ### Where a block stands -/
def areaA (p first width : Nat) : Array Value := #[.int .i64 (p : Int), .int .i64 (first : Int), .int .i64 (width : Int)]
set_option maxHeartbeats 2000000 in
theorem where_code (k : Int) (n b : Nat) (w : World) (hn : n < cells k) (hb : b < 6) : Calls Try.prog 36 #[.int .i64 k, .int .i64 (n : Int), .int .i64 (b : Int)] w fun e w' => e = .returned (.agg (areaA (plc b) (fst8 k n b) (wid k (plc b)))) ∧ Below w.heap.size w w' := by
  have c1 := fun w => fcells_code k w
  have c2 := fun w => fplane_code k (plc b) w
  rw [fmtP_at k _ (plc_most hb)] at c2
  obtain ⟨h1, h2, _⟩ := acr_fmt k
  rw [← h1, ← h2] at c1
  obtain ⟨ha, hx, hy⟩ := cell_parts hn
  have hl := line_in (y := 0) hn hb (by omega)
  have hlm := lin_most hn hb
  have hcm := col_most hn hb
  have hwm := wid_most k (plc b)
  have hsm := siz_most k (plc b)
  have hnm := cells_most k
  have L : lin k n b = if b < 4 then 2 * (n / acr k) + b / 2 else n / acr k := rfl
  have C : col k n b = if b < 4 then 2 * (n % acr k) + b % 2 else n % acr k := rfl
  have hF : fst8 k n b = 8 * (lin k n b * wid k (plc b) + col k n b) := rfl
  have r1 : (n : Int).tmod (acr k : Int) = ((n % acr k : Nat) : Int) := by rw [Int.tmod_eq_emod_of_nonneg (by omega)]; rfl
  have r2 : (n : Int).tdiv (acr k : Int) = ((n / acr k : Nat) : Int) := by rw [Int.tdiv_eq_ediv_of_nonneg (by omega)]; rfl
  have r3 : IntKind.i64.wrap ((n / acr k : Nat) : Int) = ((n / acr k : Nat) : Int) := wrapNat (by have := Nat.div_le_self n (acr k); omega)
  have hd : n / acr k ≤ n := Nat.div_le_self n (acr k)
  have z0 : ((acr k : Int) == 0) = false := by simp; omega
  generalize hfb : fst8 k n b = F at *
  obtain ⟨m, hm⟩ : ∃ m, lin k n b * wid k (plc b) = m := ⟨_, rfl⟩
  rw [hm] at hF
  have M : ((lin k n b : Nat) : Int) * ((wid k (plc b) : Nat) : Int) = (m : Int) := by rw [← hm]; exact (Int.natCast_mul _ _).symm
  generalize lin k n b = l at *
  generalize col k n b = c at *
  generalize n / acr k = y at *
  generalize n % acr k = x at *
  generalize hei k (plc b) = H at *
  generalize siz k (plc b) = S at *
  generalize hWW : wid k (plc b) = W at *
  have hb6 : b = 0 ∨ b = 1 ∨ b = 2 ∨ b = 3 ∨ b = 4 ∨ b = 5 := by omega
  clear hfb hm h1 h2 hn hWW
  rcases hb6 with rfl | rfl | rfl | rfl | rfl | rfl
  case _ =>
    replace c2 : ∀ w, Calls Try.prog 41 #[.int .i64 k, .int .i64 0] w fun e w' => e = .returned (.tuple #[.int .i64 (W : Int), .int .i64 (H : Int)]) ∧ w = w' := c2
    replace L : l = 2 * y := by rw [L, if_pos (by omega)]; all_goals omega
    replace C : c = 2 * x := by rw [C, if_pos (by omega)]; all_goals omega
    subst L C
    replace M : (2 * (y : Int)) * (W : Int) = (m : Int) := M
    have HF := Lib.hid hF
    have hF8 : F ≤ 1622016 := by omega
    go_enter Try.func36, Try.ntmps36
    go_wp2_with (first | (with_reducible refine (c1 _).mono ?_; rintro e w1 ⟨rfl, rfl⟩) | (with_reducible refine (c2 _).mono ?_; rintro e w1 ⟨rfl, rfl⟩))
    go_region
    go_wp2_with (first | (with_reducible refine (c1 _).mono ?_; rintro e w1 ⟨rfl, rfl⟩) | (with_reducible refine (c2 _).mono ?_; rintro e w1 ⟨rfl, rfl⟩))
    refine bodyPost_ret (results_cell_row rfl _ _ w.heap.size 60 _ (0, 0) _ rfl (heap_alloc_new w _) Try.underlying60 rfl (by kernel_rfl)) rfl ⟨by rw [HF.out]; rfl, ((Below.refl _ w).alloc (Nat.le_refl _) _).drew⟩
  case _ =>
    replace c2 : ∀ w, Calls Try.prog 41 #[.int .i64 k, .int .i64 0] w fun e w' => e = .returned (.tuple #[.int .i64 (W : Int), .int .i64 (H : Int)]) ∧ w = w' := c2
    replace L : l = 2 * y := by rw [L, if_pos (by omega)]; all_goals omega
    replace C : c = 2 * x + 1 := by rw [C, if_pos (by omega)]; all_goals omega
    subst L C
    replace M : (2 * (y : Int)) * (W : Int) = (m : Int) := M
    have HF := Lib.hid hF
    have hF8 : F ≤ 1622016 := by omega
    go_enter Try.func36, Try.ntmps36
    go_wp2_with (first | (with_reducible refine (c1 _).mono ?_; rintro e w1 ⟨rfl, rfl⟩) | (with_reducible refine (c2 _).mono ?_; rintro e w1 ⟨rfl, rfl⟩))
    go_region
    go_wp2_with (first | (with_reducible refine (c1 _).mono ?_; rintro e w1 ⟨rfl, rfl⟩) | (with_reducible refine (c2 _).mono ?_; rintro e w1 ⟨rfl, rfl⟩))
    refine bodyPost_ret (results_cell_row rfl _ _ w.heap.size 60 _ (0, 0) _ rfl (heap_alloc_new w _) Try.underlying60 rfl (by kernel_rfl)) rfl ⟨by rw [HF.out]; rfl, ((Below.refl _ w).alloc (Nat.le_refl _) _).drew⟩
  case _ =>
    replace c2 : ∀ w, Calls Try.prog 41 #[.int .i64 k, .int .i64 0] w fun e w' => e = .returned (.tuple #[.int .i64 (W : Int), .int .i64 (H : Int)]) ∧ w = w' := c2
    replace L : l = 2 * y + 1 := by rw [L, if_pos (by omega)]; all_goals omega
    replace C : c = 2 * x := by rw [C, if_pos (by omega)]; all_goals omega
    subst L C
    replace M : (2 * (y : Int) + 1) * (W : Int) = (m : Int) := M
    have HF := Lib.hid hF
    have hF8 : F ≤ 1622016 := by omega
    go_enter Try.func36, Try.ntmps36
    go_wp2_with (first | (with_reducible refine (c1 _).mono ?_; rintro e w1 ⟨rfl, rfl⟩) | (with_reducible refine (c2 _).mono ?_; rintro e w1 ⟨rfl, rfl⟩))
    go_region
    go_wp2_with (first | (with_reducible refine (c1 _).mono ?_; rintro e w1 ⟨rfl, rfl⟩) | (with_reducible refine (c2 _).mono ?_; rintro e w1 ⟨rfl, rfl⟩))
    refine bodyPost_ret (results_cell_row rfl _ _ w.heap.size 60 _ (0, 0) _ rfl (heap_alloc_new w _) Try.underlying60 rfl (by kernel_rfl)) rfl ⟨by rw [HF.out]; rfl, ((Below.refl _ w).alloc (Nat.le_refl _) _).drew⟩
  case _ =>
    replace c2 : ∀ w, Calls Try.prog 41 #[.int .i64 k, .int .i64 0] w fun e w' => e = .returned (.tuple #[.int .i64 (W : Int), .int .i64 (H : Int)]) ∧ w = w' := c2
    replace L : l = 2 * y + 1 := by rw [L, if_pos (by omega)]; all_goals omega
    replace C : c = 2 * x + 1 := by rw [C, if_pos (by omega)]; all_goals omega
    subst L C
    replace M : (2 * (y : Int) + 1) * (W : Int) = (m : Int) := M
    have HF := Lib.hid hF
    have hF8 : F ≤ 1622016 := by omega
    go_enter Try.func36, Try.ntmps36
    go_wp2_with (first | (with_reducible refine (c1 _).mono ?_; rintro e w1 ⟨rfl, rfl⟩) | (with_reducible refine (c2 _).mono ?_; rintro e w1 ⟨rfl, rfl⟩))
    go_region
    go_wp2_with (first | (with_reducible refine (c1 _).mono ?_; rintro e w1 ⟨rfl, rfl⟩) | (with_reducible refine (c2 _).mono ?_; rintro e w1 ⟨rfl, rfl⟩))
    refine bodyPost_ret (results_cell_row rfl _ _ w.heap.size 60 _ (0, 0) _ rfl (heap_alloc_new w _) Try.underlying60 rfl (by kernel_rfl)) rfl ⟨by rw [HF.out]; rfl, ((Below.refl _ w).alloc (Nat.le_refl _) _).drew⟩
  case _ =>
    replace c2 : ∀ w, Calls Try.prog 41 #[.int .i64 k, .int .i64 1] w fun e w' => e = .returned (.tuple #[.int .i64 (W : Int), .int .i64 (H : Int)]) ∧ w = w' := c2
    replace L : l = y := by rw [L, if_neg (by omega)]
    replace C : c = x := by rw [C, if_neg (by omega)]
    subst L C
    have HF := Lib.hid hF
    have hF8 : F ≤ 1622016 := by omega
    go_enter Try.func36, Try.ntmps36
    go_wp2_with (first | (with_reducible refine (c1 _).mono ?_; rintro e w1 ⟨rfl, rfl⟩) | (with_reducible refine (c2 _).mono ?_; rintro e w1 ⟨rfl, rfl⟩))
    go_region
    go_wp2_with (first | (with_reducible refine (c1 _).mono ?_; rintro e w1 ⟨rfl, rfl⟩) | (with_reducible refine (c2 _).mono ?_; rintro e w1 ⟨rfl, rfl⟩))
    refine bodyPost_ret (results_cell_row rfl _ _ w.heap.size 60 _ (0, 0) _ rfl (heap_alloc_new w _) Try.underlying60 rfl (by kernel_rfl)) rfl ⟨by rw [HF.out]; rfl, ((Below.refl _ w).alloc (Nat.le_refl _) _).drew⟩
  case _ =>
    replace c2 : ∀ w, Calls Try.prog 41 #[.int .i64 k, .int .i64 2] w fun e w' => e = .returned (.tuple #[.int .i64 (W : Int), .int .i64 (H : Int)]) ∧ w = w' := c2
    replace L : l = y := by rw [L, if_neg (by omega)]
    replace C : c = x := by rw [C, if_neg (by omega)]
    subst L C
    have HF := Lib.hid hF
    have hF8 : F ≤ 1622016 := by omega
    go_enter Try.func36, Try.ntmps36
    go_wp2_with (first | (with_reducible refine (c1 _).mono ?_; rintro e w1 ⟨rfl, rfl⟩) | (with_reducible refine (c2 _).mono ?_; rintro e w1 ⟨rfl, rfl⟩))
    go_region
    go_wp2_with (first | (with_reducible refine (c1 _).mono ?_; rintro e w1 ⟨rfl, rfl⟩) | (with_reducible refine (c2 _).mono ?_; rintro e w1 ⟨rfl, rfl⟩))
    refine bodyPost_ret (results_cell_row rfl _ _ w.heap.size 60 _ (0, 0) _ rfl (heap_alloc_new w _) Try.underlying60 rfl (by kernel_rfl)) rfl ⟨by rw [HF.out]; rfl, ((Below.refl _ w).alloc (Nat.le_refl _) _).drew⟩

theorem area_cells {w : World} {B p f W : Nat} (h : w.heap[B]? = some (.cells (areaA p f W) 60 (0, 0))) : w.cell? ⟨B, 0, none⟩ = some (.int .i64 (p : Int)) ∧ w.cell? ⟨B, 1, none⟩ = some (.int .i64 (f : Int)) ∧ w.cell? ⟨B, 2, none⟩ = some (.int .i64 (W : Int)) :=
  ⟨part_cells (cs := [.int .i64 (p : Int), .int .i64 (f : Int), .int .i64 (W : Int)]) h rfl, part_cells (cs := [.int .i64 (p : Int), .int .i64 (f : Int), .int .i64 (W : Int)]) h rfl, part_cells (cs := [.int .i64 (p : Int), .int .i64 (f : Int), .int .i64 (W : Int)]) h rfl⟩
theorem area_sized (p f W : Nat) : (Try.prog.info? 60).map (·.size) = some (areaA p f W).size := by
  have h : (Try.prog.info? 60).map (·.size) = some 3 := by kernel_rfl
  exact h
theorem area_ones (p f W : Nat) : (areaA p f W).all (·.oneCell') = true := by simp [areaA, Value.oneCell']

end Go.Proofs.Ytnpmllbdpmkliaa
