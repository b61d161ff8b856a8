/- How great the sheets of any format are: package formats, and the document's own table. No condition. -/
import Derived.Test.YtnpmllbdpmkliaaRows
import Derived.Test.YtnpmllbdpmkliaaNums
import Derived.WalkKit
import Derived.WalkMore
import Derived.ProofKit
namespace Go.Proofs.Ytnpmllbdpmkliaa
open Go.RowKit

/-- A format's width, height, rows, and lines of cells in a row; noughts: there is none. -/
def fmtV (k : Int) : Int × Int × Int × Int :=
  if k = 1 then (128, 96, 6, 1) else if k = 2 then (176, 144, 9, 1) else if k = 3 then (352, 288, 18, 1) else if k = 4 then (704, 576, 18, 2) else if k = 5 then (1408, 1152, 18, 4) else if k = 6 then (32, 32, 2, 1) else (0, 0, 0, 0)
def fmtW (k : Int) : Int := (fmtV k).1
def fmtH (k : Int) : Int := (fmtV k).2.1
def fmtR (k : Int) : Int := (fmtV k).2.2.1
def fmtL (k : Int) : Int := (fmtV k).2.2.2
def isFmt (k : Int) : Bool := decide (1 ≤ k ∧ k ≤ 6)
theorem fmt_cases (k : Int) : k = 1 ∨ k = 2 ∨ k = 3 ∨ k = 4 ∨ k = 5 ∨ k = 6 ∨ (isFmt k = false ∧ fmtV k = (0, 0, 0, 0)) := by
  by_cases h : 1 ≤ k ∧ k ≤ 6
  · omega
  · refine .inr (.inr (.inr (.inr (.inr (.inr ⟨by simpa [isFmt] using h, ?_⟩)))))
    unfold fmtV
    rw [if_neg (by omega), if_neg (by omega), if_neg (by omega), if_neg (by omega), if_neg (by omega), if_neg (by omega)]
theorem fmt_none {k : Int} (h : isFmt k = false) : (k == 1) = false ∧ (k == 2) = false ∧ (k == 3) = false ∧ (k == 4) = false ∧ (k == 5) = false ∧ (k == 6) = false := by
  have h1 : ¬ (1 ≤ k ∧ k ≤ 6) := by simpa [isFmt] using h
  refine ⟨?_, ?_, ?_, ?_, ?_, ?_⟩ <;> (simp; omega)

set_option maxHeartbeats 1000000 in
theorem fsize_code (k : Int) (w : World) : Calls Try.prog 40 #[.int .i64 k] w fun e w' => e = .returned (.tuple #[.int .i64 (fmtW k), .int .i64 (fmtH k), .bool (isFmt k)]) ∧ w = w' := by
  rcases fmt_cases k with rfl | rfl | rfl | rfl | rfl | rfl | ⟨h, hv⟩
  case _ | _ | _ | _ | _ | _ =>
    go_enter Try.func40, Try.ntmps40
    go_wp2
    go_ret3
    exact ⟨rfl, rfl⟩
  obtain ⟨t1, t2, t3, t4, t5, t6⟩ := fmt_none h
  unfold fmtW fmtH
  rw [h, hv]
  clear h hv
  go_enter Try.func40, Try.ntmps40
  go_wp2
  go_ret3
  exact ⟨rfl, rfl⟩

/-- How many cells stand side by side, and how many lines of them there are. -/
def fmtA (k : Int) : Int := fmtW k / 16
def fmtD (k : Int) : Int := fmtH k / 16
set_option maxHeartbeats 1000000 in
theorem fcells_code (k : Int) (w : World) : Calls Try.prog 22 #[.int .i64 k] w fun e w' => e = .returned (.tuple #[.int .i64 (fmtA k), .int .i64 (fmtD k)]) ∧ w = w' := by
  have c := fsize_code k w
  have hv : (fmtW k).tdiv 16 = fmtA k ∧ (fmtH k).tdiv 16 = fmtD k := by
    rcases fmt_cases k with rfl | rfl | rfl | rfl | rfl | rfl | ⟨_, hv⟩
    case _ | _ | _ | _ | _ | _ => exact ⟨rfl, rfl⟩
    unfold fmtA fmtD fmtW fmtH
    rw [hv]
    exact ⟨rfl, rfl⟩
  have hw : IntKind.i64.wrap (fmtA k) = fmtA k ∧ IntKind.i64.wrap (fmtD k) = fmtD k := by
    rcases fmt_cases k with rfl | rfl | rfl | rfl | rfl | rfl | ⟨_, hv⟩
    case _ | _ | _ | _ | _ | _ => exact ⟨rfl, rfl⟩
    unfold fmtA fmtD fmtW fmtH
    rw [hv]
    exact ⟨rfl, rfl⟩
  obtain ⟨v1, v2⟩ := hv
  obtain ⟨v3, v4⟩ := hw
  generalize fmtW k = a at c v1
  generalize fmtH k = b at c v2
  generalize fmtA k = a2 at v1 v3 ⊢
  generalize fmtD k = b2 at v2 v4 ⊢
  go_enter Try.func22, Try.ntmps22
  go_wp2_with (first | (with_reducible refine c.mono ?_; rintro e w1 ⟨rfl, rfl⟩))
  go_ret2
  exact ⟨rfl, rfl⟩

/-- A plane's width and height. -/
def fmtP (k p : Int) : Int × Int := if p = 0 then (fmtW k, fmtH k) else if p = 1 ∨ p = 2 then (fmtW k / 2, fmtH k / 2) else (0, 0)
theorem fplane_code (k p : Int) (w : World) : Calls Try.prog 41 #[.int .i64 k, .int .i64 p] w fun e w' => e = .returned (.tuple #[.int .i64 (fmtP k p).1, .int .i64 (fmtP k p).2]) ∧ w = w' := by
  have c := fsize_code k w
  have hv : (fmtW k).tdiv 2 = fmtW k / 2 ∧ (fmtH k).tdiv 2 = fmtH k / 2 := by
    rcases fmt_cases k with rfl | rfl | rfl | rfl | rfl | rfl | ⟨_, hv⟩
    case _ | _ | _ | _ | _ | _ => exact ⟨rfl, rfl⟩
    unfold fmtW fmtH
    rw [hv]
    exact ⟨rfl, rfl⟩
  have hw : IntKind.i64.wrap (fmtW k / 2) = fmtW k / 2 ∧ IntKind.i64.wrap (fmtH k / 2) = fmtH k / 2 := by
    rcases fmt_cases k with rfl | rfl | rfl | rfl | rfl | rfl | ⟨_, hv⟩
    case _ | _ | _ | _ | _ | _ => exact ⟨rfl, rfl⟩
    unfold fmtW fmtH
    rw [hv]
    exact ⟨rfl, rfl⟩
  obtain ⟨v1, v2⟩ := hv
  obtain ⟨v3, v4⟩ := hw
  unfold fmtP
  generalize fmtW k / 2 = a2 at v1 v3 ⊢
  generalize fmtH k / 2 = b2 at v2 v4 ⊢
  generalize fmtW k = a at c v1 ⊢
  generalize fmtH k = b at c v2 ⊢
  by_cases h0 : p = 0
  · subst h0
    go_enter Try.func41, Try.ntmps41
    go_wp2_with (first | (with_reducible refine c.mono ?_; rintro e w1 ⟨rfl, rfl⟩))
    go_ret2
    exact ⟨rfl, rfl⟩
  by_cases h1 : p = 1
  · subst h1
    go_enter Try.func41, Try.ntmps41
    go_wp2_with (first | (with_reducible refine c.mono ?_; rintro e w1 ⟨rfl, rfl⟩))
    go_ret2
    exact ⟨rfl, rfl⟩
  by_cases h2 : p = 2
  · subst h2
    go_enter Try.func41, Try.ntmps41
    go_wp2_with (first | (with_reducible refine c.mono ?_; rintro e w1 ⟨rfl, rfl⟩))
    go_ret2
    exact ⟨rfl, rfl⟩
  rw [if_neg h0, if_neg (by omega)]
  have t0 : (p == 0) = false := by simpa using h0
  have t1 : (p == 1) = false := by simpa using h1
  have t2 : (p == 2) = false := by simpa using h2
  clear h0 h1 h2
  go_enter Try.func41, Try.ntmps41
  go_wp2_with (first | (with_reducible refine c.mono ?_; rintro e w1 ⟨rfl, rfl⟩))
  go_ret2
  exact ⟨rfl, rfl⟩

theorem fmt_lives : fmtW 2 = 176 ∧ fmtH 2 = 144 ∧ isFmt 2 = true ∧ fmtA 2 = 11 ∧ fmtD 2 = 9 := by decide +kernel
theorem fmt_heap (w : World) (o1 o2 : Obj) : ((w.alloc o1).alloc o2).heap[w.heap.size]? = some o1 := by
  show ((w.heap.push o1).push o2)[w.heap.size]? = some o1
  rw [Array.getElem?_push, if_neg (by simp)]
  simp
theorem fmt_heap1 (w : World) (o1 : Obj) : (w.alloc o1).heap[w.heap.size]? = some o1 := heap_alloc_new w o1
theorem fmt_below (w : World) (o1 o2 : Obj) : Below w.heap.size w ((w.alloc o1).alloc o2) := ((Below.refl _ w).alloc (Nat.le_refl _) _).alloc (by simp) _
/-- What the document's table tells. -/
def fmtG (k : Int) : Array Value := #[.int .i64 (fmtW k), .int .i64 (fmtH k), .int .i64 (fmtR k), .int .i64 (fmtL k)]
set_option maxHeartbeats 2000000 in
theorem fpage_code (k : Int) (w : World) : Calls Try.prog 26 #[.int .i64 k] w fun e w' => e = .returned (.agg (fmtG k)) ∧ Below w.heap.size w w' := by
  by_cases hk : k < 0 ∨ 6 < k
  · have hv : fmtG k = #[.int .i64 0, .int .i64 0, .int .i64 0, .int .i64 0] := by
      have hf : fmtV k = (0, 0, 0, 0) := by
        unfold fmtV
        rw [if_neg (by omega), if_neg (by omega), if_neg (by omega), if_neg (by omega), if_neg (by omega), if_neg (by omega)]
      unfold fmtG fmtW fmtH fmtR fmtL
      rw [hf]
    rw [hv]
    clear hv
    by_cases hn : k < 0
    · have t0 : decide (k < 0) = true := by simpa using hn
      clear hk hn
      go_enter Try.func26, Try.ntmps26
      go_wp2
      exact bodyPost_ret (results_cell_row rfl _ _ w.heap.size 49 _ (0, 0) _ rfl (fmt_heap w _ _) Try.underlying49 rfl (by kernel_rfl)) rfl ⟨rfl, fmt_below w _ _⟩
    · have t0 : decide (k < 0) = false := by simpa using hn
      have t1 : decide (7 ≤ k) = true := by simp; omega
      clear hk hn
      go_enter Try.func26, Try.ntmps26
      go_wp2
      exact bodyPost_ret (results_cell_row rfl _ _ w.heap.size 49 _ (0, 0) _ rfl (fmt_heap w _ _) Try.underlying49 rfl (by kernel_rfl)) rfl ⟨rfl, fmt_below w _ _⟩
  have hk2 : k = 0 ∨ k = 1 ∨ k = 2 ∨ k = 3 ∨ k = 4 ∨ k = 5 ∨ k = 6 := by omega
  clear hk
  rcases hk2 with rfl | rfl | rfl | rfl | rfl | rfl | rfl
  all_goals
    go_enter Try.func26, Try.ntmps26
    go_wp2
    exact bodyPost_ret (results_cell_row rfl _ _ w.heap.size 49 _ (0, 0) _ rfl (fmt_heap w _ _) Try.underlying49 rfl (by kernel_rfl)) rfl ⟨rfl, fmt_below w _ _⟩
end Go.Proofs.Ytnpmllbdpmkliaa
