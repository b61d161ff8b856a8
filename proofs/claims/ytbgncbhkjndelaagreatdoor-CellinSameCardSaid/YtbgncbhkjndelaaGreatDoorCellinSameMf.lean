/- Texts that CellinSame's proof stands on, part 6 of 35. No condition of its own. -/
import Derived.Test.YtbgncbhkjndelaaGreatDoorCellinSameMa
import Derived.Test.YtbgncbhkjndelaaGreatDoorCellinSameMe
import Derived.WalkKit
import Derived.WalkMore
import Derived.Lib.Strings
namespace Go.Proofs.YtbgncbhkjndelaaGreatDoor
open Go.RowKit Go.Lib
def interL (k : Int) : List ByteArray :=
 if k = 0 then [⟨#[49]⟩, ⟨#[48, 48, 49, 49]⟩, ⟨#[48, 48, 49, 48]⟩, ⟨#[48, 48, 48, 49, 48, 49]⟩] else
 if k = 1 then [⟨#[48, 49, 49]⟩, ⟨#[48, 48, 48, 48, 49, 49, 49]⟩, ⟨#[48, 48, 48, 48, 49, 49, 48]⟩, ⟨#[48, 48, 48, 48, 48, 48, 49, 48, 49]⟩] else
 if k = 2 then [⟨#[48, 49, 48]⟩, ⟨#[48, 48, 48, 48, 49, 48, 49]⟩, ⟨#[48, 48, 48, 48, 49, 48, 48]⟩, ⟨#[48, 48, 48, 48, 48, 49, 48, 49]⟩] else
 if k = 3 then [⟨#[48, 48, 48, 49, 49]⟩, ⟨#[48, 48, 48, 48, 48, 49, 48, 48]⟩, ⟨#[48, 48, 48, 48, 48, 48, 49, 49]⟩, ⟨#[48, 48, 48, 48, 48, 49, 49]⟩] else
 if k = 4 then [⟨#[48, 48, 48, 49, 48, 48]⟩, ⟨#[48, 48, 48, 48, 48, 48, 49, 48, 48]⟩, ⟨#[48, 48, 48, 48, 48, 48, 48, 49, 49]⟩, ⟨#[48, 48, 48, 48, 48, 48, 48, 49, 48]⟩] else
 if k = 5 then [⟨#[48, 48, 48, 48, 48, 48, 48, 48, 49]⟩, ⟨#[]⟩, ⟨#[]⟩, ⟨#[]⟩] else
 [⟨#[]⟩, ⟨#[]⟩, ⟨#[]⟩, ⟨#[]⟩]
def intraL (k : Int) : List ByteArray :=
 if k = 3 then [⟨#[49]⟩, ⟨#[48, 48, 49]⟩, ⟨#[48, 49, 48]⟩, ⟨#[48, 49, 49]⟩] else
 if k = 4 then [⟨#[48, 48, 48, 49]⟩, ⟨#[48, 48, 48, 48, 48, 49]⟩, ⟨#[48, 48, 48, 48, 49, 48]⟩, ⟨#[48, 48, 48, 48, 49, 49]⟩] else
 if k = 5 then [⟨#[48, 48, 48, 48, 48, 48, 48, 48, 49]⟩, ⟨#[]⟩, ⟨#[]⟩, ⟨#[]⟩] else
 [⟨#[]⟩, ⟨#[]⟩, ⟨#[]⟩, ⟨#[]⟩]
def rowsL (inter : Bool) (k : Int) : List ByteArray := if inter then interL k else intraL k
def fourV (l : List ByteArray) : Value := .agg (l.map Value.string).toArray
theorem interL_four (k : Int) : ∃ a b c d, interL k = [a, b, c, d] := by
 unfold interL
 repeat' split
 all_goals exact ⟨_, _, _, _, rfl⟩
theorem intraL_four (k : Int) : ∃ a b c d, intraL k = [a, b, c, d] := by
 unfold intraL
 repeat' split
 all_goals exact ⟨_, _, _, _, rfl⟩
theorem rowsL_four (inter : Bool) (k : Int) : ∃ a b c d, rowsL inter k = [a, b, c, d] := by
 cases inter
 ·exact intraL_four k
 ·exact interL_four k
set_option maxHeartbeats 2000000 in
theorem interRows_code (k : Int) (w : World) : Calls Tryz.prog 94 #[.int .i64 k] w fun e w' => e = .returned (fourV (interL k)) ∧ Below w.heap.size w w' := by
 by_cases h0 : k = 0
 ·subst h0
  go_enter Tryz.func94, Tryz.ntmps94
  go_wp2
  exact bodyPost_ret (results_cell_row rfl _ _ w.heap.size 139 _ (0, 0) _ rfl (heap_alloc_new w _) Tryz.underlying139 rfl (by kernel_rfl)) rfl ⟨rfl, (Below.refl _ w).alloc (Nat.le_refl _) _⟩
 have g0 : (k == 0) = false := by rw [beq_eq_false_iff_ne]; exact h0
 by_cases h1 : k = 1
 ·subst h1
  go_enter Tryz.func94, Tryz.ntmps94
  go_wp2
  exact bodyPost_ret (results_cell_row rfl _ _ w.heap.size 139 _ (0, 0) _ rfl (heap_alloc_new w _) Tryz.underlying139 rfl (by kernel_rfl)) rfl ⟨rfl, (Below.refl _ w).alloc (Nat.le_refl _) _⟩
 have g1 : (k == 1) = false := by rw [beq_eq_false_iff_ne]; exact h1
 by_cases h2 : k = 2
 ·subst h2
  go_enter Tryz.func94, Tryz.ntmps94
  go_wp2
  exact bodyPost_ret (results_cell_row rfl _ _ w.heap.size 139 _ (0, 0) _ rfl (heap_alloc_new w _) Tryz.underlying139 rfl (by kernel_rfl)) rfl ⟨rfl, (Below.refl _ w).alloc (Nat.le_refl _) _⟩
 have g2 : (k == 2) = false := by rw [beq_eq_false_iff_ne]; exact h2
 by_cases h3 : k = 3
 ·subst h3
  go_enter Tryz.func94, Tryz.ntmps94
  go_wp2
  exact bodyPost_ret (results_cell_row rfl _ _ w.heap.size 139 _ (0, 0) _ rfl (heap_alloc_new w _) Tryz.underlying139 rfl (by kernel_rfl)) rfl ⟨rfl, (Below.refl _ w).alloc (Nat.le_refl _) _⟩
 have g3 : (k == 3) = false := by rw [beq_eq_false_iff_ne]; exact h3
 by_cases h4 : k = 4
 ·subst h4
  go_enter Tryz.func94, Tryz.ntmps94
  go_wp2
  exact bodyPost_ret (results_cell_row rfl _ _ w.heap.size 139 _ (0, 0) _ rfl (heap_alloc_new w _) Tryz.underlying139 rfl (by kernel_rfl)) rfl ⟨rfl, (Below.refl _ w).alloc (Nat.le_refl _) _⟩
 have g4 : (k == 4) = false := by rw [beq_eq_false_iff_ne]; exact h4
 by_cases h5 : k = 5
 ·subst h5
  go_enter Tryz.func94, Tryz.ntmps94
  go_wp2
  exact bodyPost_ret (results_cell_row rfl _ _ w.heap.size 139 _ (0, 0) _ rfl (heap_alloc_new w _) Tryz.underlying139 rfl (by kernel_rfl)) rfl ⟨rfl, (Below.refl _ w).alloc (Nat.le_refl _) _⟩
 have g5 : (k == 5) = false := by rw [beq_eq_false_iff_ne]; exact h5
 have F := Lib.hid (show interL k = [⟨#[]⟩, ⟨#[]⟩, ⟨#[]⟩, ⟨#[]⟩] by unfold interL; simp only [h0, h1, h2, h3, h4, h5, if_false])
 clear h0 h1 h2 h3 h4 h5
 go_enter Tryz.func94, Tryz.ntmps94
 go_wp2
 rw [F.out]
 exact bodyPost_ret (results_cell_row rfl _ _ w.heap.size 139 _ (0, 0) _ rfl (heap_alloc_new w _) Tryz.underlying139 rfl (by kernel_rfl)) rfl ⟨rfl, (Below.refl _ w).alloc (Nat.le_refl _) _⟩
set_option maxHeartbeats 2000000 in
theorem intraRows_code (k : Int) (w : World) : Calls Tryz.prog 95 #[.int .i64 k] w fun e w' => e = .returned (fourV (intraL k)) ∧ Below w.heap.size w w' := by
 by_cases h3 : k = 3
 ·subst h3
  go_enter Tryz.func95, Tryz.ntmps95
  go_wp2
  exact bodyPost_ret (results_cell_row rfl _ _ w.heap.size 139 _ (0, 0) _ rfl (heap_alloc_new w _) Tryz.underlying139 rfl (by kernel_rfl)) rfl ⟨rfl, (Below.refl _ w).alloc (Nat.le_refl _) _⟩
 have g3 : (k == 3) = false := by rw [beq_eq_false_iff_ne]; exact h3
 by_cases h4 : k = 4
 ·subst h4
  go_enter Tryz.func95, Tryz.ntmps95
  go_wp2
  exact bodyPost_ret (results_cell_row rfl _ _ w.heap.size 139 _ (0, 0) _ rfl (heap_alloc_new w _) Tryz.underlying139 rfl (by kernel_rfl)) rfl ⟨rfl, (Below.refl _ w).alloc (Nat.le_refl _) _⟩
 have g4 : (k == 4) = false := by rw [beq_eq_false_iff_ne]; exact h4
 by_cases h5 : k = 5
 ·subst h5
  go_enter Tryz.func95, Tryz.ntmps95
  go_wp2
  exact bodyPost_ret (results_cell_row rfl _ _ w.heap.size 139 _ (0, 0) _ rfl (heap_alloc_new w _) Tryz.underlying139 rfl (by kernel_rfl)) rfl ⟨rfl, (Below.refl _ w).alloc (Nat.le_refl _) _⟩
 have g5 : (k == 5) = false := by rw [beq_eq_false_iff_ne]; exact h5
 have F := Lib.hid (show intraL k = [⟨#[]⟩, ⟨#[]⟩, ⟨#[]⟩, ⟨#[]⟩] by unfold intraL; simp only [h3, h4, h5, if_false])
 clear h3 h4 h5
 go_enter Tryz.func95, Tryz.ntmps95
 go_wp2
 rw [F.out]
 exact bodyPost_ret (results_cell_row rfl _ _ w.heap.size 139 _ (0, 0) _ rfl (heap_alloc_new w _) Tryz.underlying139 rfl (by kernel_rfl)) rfl ⟨rfl, (Below.refl _ w).alloc (Nat.le_refl _) _⟩
set_option maxHeartbeats 1000000 in
theorem rows_code (inter : Bool) (k : Int) (w : World) : Calls Tryz.prog 81 #[.bool inter, .int .i64 k] w fun e w' => e = .returned (fourV (rowsL inter k)) ∧ Below w.heap.size w w' := by
 cases inter with
 | true =>
  obtain ⟨a, b, c, d, hl⟩ := interL_four k
  have hcon := fun x => interRows_code k x
  have F := Lib.hid (show fourV (rowsL true k) = fourV [a, b, c, d] by rw [← hl]; rfl)
  rw [hl] at hcon
  go_enter Tryz.func81, Tryz.ntmps81
  go_wp2_with fail
  refine (hcon _).mono ?_
  rintro e w1 ⟨rfl, hb1⟩
  have hh : w1.heap[w.heap.size]? = some (.cells [.string ⟨#[]⟩, .string ⟨#[]⟩, .string ⟨#[]⟩, .string ⟨#[]⟩].toArray 139 (0, 0)) := (hb1.block w.heap.size (by simp)).trans (heap_alloc_new w _)
  have f0 := part_free (o := 0) hh
  have f1 := part_free (o := 1) hh
  have f2 := part_free (o := 2) hh
  have f3 := part_free (o := 3) hh
  have c0 : w1.cell? ⟨w.heap.size, 0, none⟩ = some (.string ⟨#[]⟩) := part_cells hh rfl
  have c1 : w1.cell? ⟨w.heap.size, 1, none⟩ = some (.string ⟨#[]⟩) := part_cells hh rfl
  have c2 : w1.cell? ⟨w.heap.size, 2, none⟩ = some (.string ⟨#[]⟩) := part_cells hh rfl
  have c3 : w1.cell? ⟨w.heap.size, 3, none⟩ = some (.string ⟨#[]⟩) := part_cells hh rfl
  have e4 : fourV [a, b, c, d] = .agg #[.string a, .string b, .string c, .string d] := rfl
  have hb : Below w.heap.size w w1 := ((Below.refl _ w).alloc (Nat.le_refl _) _).trans (hb1.mono (by simp))
  have H4 := part_set (o := 3) (.string d) (part_set (o := 2) (.string c) (part_set (o := 1) (.string b) (part_set (o := 0) (.string a) hh)))
  rw [e4]
  go_wp2
  exact bodyPost_ret (results_cell_row rfl _ _ w.heap.size 139 _ (0, 0) _ rfl H4 Tryz.underlying139 rfl (by kernel_rfl)) rfl ⟨by rw [F.out]; rfl, (((hb.setCell (Nat.le_refl _) _).setCell (Nat.le_refl _) _).setCell (Nat.le_refl _) _).setCell (Nat.le_refl _) _⟩
 | false =>
  obtain ⟨a, b, c, d, hl⟩ := intraL_four k
  have hcon := fun x => intraRows_code k x
  have F := Lib.hid (show fourV (rowsL false k) = fourV [a, b, c, d] by rw [← hl]; rfl)
  rw [hl] at hcon
  go_enter Tryz.func81, Tryz.ntmps81
  go_wp2_with fail
  refine (hcon _).mono ?_
  rintro e w1 ⟨rfl, hb1⟩
  have hh : w1.heap[w.heap.size]? = some (.cells [.string ⟨#[]⟩, .string ⟨#[]⟩, .string ⟨#[]⟩, .string ⟨#[]⟩].toArray 139 (0, 0)) := (hb1.block w.heap.size (by simp)).trans (heap_alloc_new w _)
  have f0 := part_free (o := 0) hh
  have f1 := part_free (o := 1) hh
  have f2 := part_free (o := 2) hh
  have f3 := part_free (o := 3) hh
  have c0 : w1.cell? ⟨w.heap.size, 0, none⟩ = some (.string ⟨#[]⟩) := part_cells hh rfl
  have c1 : w1.cell? ⟨w.heap.size, 1, none⟩ = some (.string ⟨#[]⟩) := part_cells hh rfl
  have c2 : w1.cell? ⟨w.heap.size, 2, none⟩ = some (.string ⟨#[]⟩) := part_cells hh rfl
  have c3 : w1.cell? ⟨w.heap.size, 3, none⟩ = some (.string ⟨#[]⟩) := part_cells hh rfl
  have e4 : fourV [a, b, c, d] = .agg #[.string a, .string b, .string c, .string d] := rfl
  have hb : Below w.heap.size w w1 := ((Below.refl _ w).alloc (Nat.le_refl _) _).trans (hb1.mono (by simp))
  have H4 := part_set (o := 3) (.string d) (part_set (o := 2) (.string c) (part_set (o := 1) (.string b) (part_set (o := 0) (.string a) hh)))
  rw [e4]
  go_wp2
  exact bodyPost_ret (results_cell_row rfl _ _ w.heap.size 139 _ (0, 0) _ rfl H4 Tryz.underlying139 rfl (by kernel_rfl)) rfl ⟨by rw [F.out]; rfl, (((hb.setCell (Nat.le_refl _) _).setCell (Nat.le_refl _) _).setCell (Nat.le_refl _) _).setCell (Nat.le_refl _) _⟩
theorem four_at (a b c d : ByteArray) (w : World) :
  (Instr.index 139 (.agg #[.string a, .string b, .string c, .string d]) (.int .i64 0)).run Tryz.prog w = .ok (.string a) w ∧
  (Instr.index 139 (.agg #[.string a, .string b, .string c, .string d]) (.int .i64 1)).run Tryz.prog w = .ok (.string b) w ∧
  (Instr.index 139 (.agg #[.string a, .string b, .string c, .string d]) (.int .i64 2)).run Tryz.prog w = .ok (.string c) w ∧
  (Instr.index 139 (.agg #[.string a, .string b, .string c, .string d]) (.int .i64 3)).run Tryz.prog w = .ok (.string d) w :=
 ⟨by kernel_rfl, by kernel_rfl, by kernel_rfl, by kernel_rfl⟩
def rowAt (inter : Bool) (k c : Int) : ByteArray := if 0 ≤ c ∧ c < 4 then (rowsL inter k)[c.toNat]?.getD ⟨#[]⟩ else ⟨#[]⟩
end Go.Proofs.YtbgncbhkjndelaaGreatDoor
