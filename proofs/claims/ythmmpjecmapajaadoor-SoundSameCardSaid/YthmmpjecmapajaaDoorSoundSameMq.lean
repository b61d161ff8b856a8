/- Texts that SoundSame's proof stands on, part 17 of 48. No condition of its own. -/
import Derived.Test.YthmmpjecmapajaaDoorSoundSameMj
import Derived.Test.YthmmpjecmapajaaDoorSoundSameMm
import Derived.WalkMore
namespace Go.Proofs.YthmmpjecmapajaaDoor
open Go.RowKit Go.Lib
theorem four_index (a b c d : Int) (w : World) : (Instr.index 49 (.agg #[.int .i64 a, .int .i64 b, .int .i64 c, .int .i64 d]) (.int .i64 0)).run Tryd.prog w = .ok (.int .i64 a) w ∧
  (Instr.index 49 (.agg #[.int .i64 a, .int .i64 b, .int .i64 c, .int .i64 d]) (.int .i64 1)).run Tryd.prog w = .ok (.int .i64 b) w := by
 obtain ⟨j, hj⟩ := int_info
 have h0 : (0 : Int) ≤ 0 ∧ (0 : Int) < ((4 : Nat) : Int) := by omega
 have h1 : (0 : Int) ≤ 1 ∧ (1 : Int) < ((4 : Nat) : Int) := by omega
 constructor
 ·simp only [Instr.index, asIntOf, Sem.run_bind, Sem.run_pure, Result.andThen_ok, run_underlying Tryd.underlying49, if_pos h0, run_sizeOf w hj, int_cells, Nat.mul_one]
  exact run_part_plain w int_plain rfl
 ·simp only [Instr.index, asIntOf, Sem.run_bind, Sem.run_pure, Result.andThen_ok, run_underlying Tryd.underlying49, if_pos h1, run_sizeOf w hj, int_cells, Nat.mul_one]
  exact run_part_plain w int_plain rfl
theorem acr_div (k : Int) : (fmtW k).tdiv 16 = (acr k : Int) ∧ (fmtH k).tdiv 16 = (dow k : Int) ∧ (fmtW k).tdiv 2 = ((8 * acr k : Nat) : Int) ∧ (fmtH k).tdiv 2 = ((8 * dow k : Nat) : Int) := by
 obtain ⟨_, _, h3, h4, _⟩ := acr_fmt k
 rw [h3, h4, Int.tdiv_eq_ediv_of_nonneg (by omega), Int.tdiv_eq_ediv_of_nonneg (by omega), Int.tdiv_eq_ediv_of_nonneg (by omega), Int.tdiv_eq_ediv_of_nonneg (by omega)]
 omega
set_option maxRecDepth 100000 in
set_option maxHeartbeats 2000000 in
theorem many_page (k : Int) (w : World) : Calls Tryd.prog 12 #[.int .i64 k] w fun e w' => e = .returned (.int .i64 (cells k : Int)) ∧ Below w.heap.size w w' := by
 have c := fun w => fpage_code k w
 obtain ⟨d1, d2, -⟩ := acr_div k
 obtain ⟨-, -, -, -, m1, m2⟩ := acr_fmt k
 have hs : (acr k : Int) * (dow k : Int) = (cells k : Int) := (Int.natCast_mul _ _).symm
 have hw : IntKind.i64.wrap (cells k : Int) = (cells k : Int) := wrapN (by have := cells_most k; omega)
 have w1 : IntKind.i64.wrap (acr k : Int) = (acr k : Int) := wrapN (by omega)
 have w2 : IntKind.i64.wrap (dow k : Int) = (dow k : Int) := wrapN (by omega)
 have ix0 := fun w => (four_index (fmtW k) (fmtH k) (fmtR k) (fmtL k) w).1
 have ix1 := fun w => (four_index (fmtW k) (fmtH k) (fmtR k) (fmtL k) w).2
 unfold fmtG at c
 clear m1 m2
 generalize acr k = a at *
 generalize dow k = b at *
 generalize cells k = m at *
 generalize fmtW k = W at *
 generalize fmtH k = H at *
 generalize fmtR k = R at *
 generalize fmtL k = L at *
 go_enter Tryd.func12, Tryd.ntmps12
 go_wp2_with fail
 refine (c _).mono ?_
 rintro e x1 ⟨rfl, hb1⟩
 go_wp2_with fail
 refine (c _).mono ?_
 rintro e x2 ⟨rfl, hb2⟩
 go_wp2
 go_ret
 exact ⟨rfl, hb1.trans (hb2.mono hb1.size)⟩
end Go.Proofs.YthmmpjecmapajaaDoor
