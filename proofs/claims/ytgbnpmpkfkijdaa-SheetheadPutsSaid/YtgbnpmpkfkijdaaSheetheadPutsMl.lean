/- Texts that SheetheadPuts's proof stands on, part 12 of 23. No condition of its own. -/
import Derived.Test.YtgbnpmpkfkijdaaSheetheadPutsMa
import Derived.Test.YtgbnpmpkfkijdaaRows
import Derived.WalkKit
import Derived.WalkMore
import Derived.ProofKit
namespace Go.Proofs.Ytgbnpmpkfkijdaa
open Go.RowKit
set_option maxHeartbeats 1000000 in
theorem fsize_code (k : Int) (w : World) : Calls Try.prog 44 #[.int .i64 k] w fun e w' => e = .returned (.tuple #[.int .i64 (fmtW k), .int .i64 (fmtH k), .bool (isFmt k)]) ∧ w = w' := by
 rcases fmt_cases k with rfl | rfl | rfl | rfl | rfl | rfl | ⟨h, hv⟩
 case _ | _ | _ | _ | _ | _ =>
  go_enter Try.func44, Try.ntmps44
  go_wp2
  go_ret3
  exact ⟨rfl, rfl⟩
 obtain ⟨t1, t2, t3, t4, t5, t6⟩ := fmt_none h
 unfold fmtW fmtH
 rw [h, hv]
 clear h hv
 go_enter Try.func44, Try.ntmps44
 go_wp2
 go_ret3
 exact ⟨rfl, rfl⟩
def fmtA (k : Int) : Int := fmtW k / 16
def fmtD (k : Int) : Int := fmtH k / 16
theorem fmt_heap (w : World) (o1 o2 : Obj) : ((w.alloc o1).alloc o2).heap[w.heap.size]? = some o1 := by
 show ((w.heap.push o1).push o2)[w.heap.size]? = some o1
 rw [Array.getElem?_push, if_neg (by simp)]
 simp
theorem fmt_below (w : World) (o1 o2 : Obj) : Below w.heap.size w ((w.alloc o1).alloc o2) := ((Below.refl _ w).alloc (Nat.le_refl _) _).alloc (by simp) _
def fmtG (k : Int) : Array Value := #[.int .i64 (fmtW k), .int .i64 (fmtH k), .int .i64 (fmtR k), .int .i64 (fmtL k)]
set_option maxHeartbeats 2000000 in
theorem fpage_code (k : Int) (w : World) : Calls Try.prog 39 #[.int .i64 k] w fun e w' => e = .returned (.agg (fmtG k)) ∧ Below w.heap.size w w' := by
 by_cases hk : k < 0 ∨ 6 < k
 ·have hv : fmtG k = #[.int .i64 0, .int .i64 0, .int .i64 0, .int .i64 0] := by
   have hf : fmtV k = (0, 0, 0, 0) := by
    unfold fmtV
    rw [if_neg (by omega), if_neg (by omega), if_neg (by omega), if_neg (by omega), if_neg (by omega), if_neg (by omega)]
   unfold fmtG fmtW fmtH fmtR fmtL
   rw [hf]
  rw [hv]
  clear hv
  by_cases hn : k < 0
  ·have t0 : decide (k < 0) = true := by simpa using hn
   clear hk hn
   go_enter Try.func39, Try.ntmps39
   go_wp2
   exact bodyPost_ret (results_cell_row rfl _ _ w.heap.size 72 _ (0, 0) _ rfl (fmt_heap w _ _) Try.underlying72 rfl (by kernel_rfl)) rfl ⟨rfl, fmt_below w _ _⟩
  ·have t0 : decide (k < 0) = false := by simpa using hn
   have t1 : decide (7 ≤ k) = true := by simp; omega
   clear hk hn
   go_enter Try.func39, Try.ntmps39
   go_wp2
   exact bodyPost_ret (results_cell_row rfl _ _ w.heap.size 72 _ (0, 0) _ rfl (fmt_heap w _ _) Try.underlying72 rfl (by kernel_rfl)) rfl ⟨rfl, fmt_below w _ _⟩
 have hk2 : k = 0 ∨ k = 1 ∨ k = 2 ∨ k = 3 ∨ k = 4 ∨ k = 5 ∨ k = 6 := by omega
 clear hk
 rcases hk2 with rfl | rfl | rfl | rfl | rfl | rfl | rfl
 all_goals
  go_enter Try.func39, Try.ntmps39
  go_wp2
  exact bodyPost_ret (results_cell_row rfl _ _ w.heap.size 72 _ (0, 0) _ rfl (fmt_heap w _ _) Try.underlying72 rfl (by kernel_rfl)) rfl ⟨rfl, fmt_below w _ _⟩
end Go.Proofs.Ytgbnpmpkfkijdaa

namespace Go.Proofs.Ytgbnpmpkfkijdaa
def acr (k : Int) : Nat := (fmtA k).toNat
def dow (k : Int) : Nat := (fmtD k).toNat
def cells (k : Int) : Nat := acr k * dow k
theorem acr_fmt (k : Int) : (acr k : Int) = fmtA k ∧ (dow k : Int) = fmtD k ∧ fmtW k = 16 * (acr k : Int) ∧ fmtH k = 16 * (dow k : Int) ∧ acr k ≤ 88 ∧ dow k ≤ 72 := by
 rcases fmt_cases k with rfl | rfl | rfl | rfl | rfl | rfl | ⟨h, hv⟩
 case _ | _ | _ | _ | _ | _ => decide +kernel
 unfold acr dow fmtA fmtD fmtW fmtH
 rw [hv]
 decide +kernel
theorem acr_none {k : Int} (h : isFmt k = false) : acr k = 0 ∧ dow k = 0 := by
 rcases fmt_cases k with rfl | rfl | rfl | rfl | rfl | rfl | ⟨_, hv⟩
 case _ | _ | _ | _ | _ | _ => cases h
 unfold acr dow fmtA fmtD fmtW fmtH
 rw [hv]
 exact ⟨rfl, rfl⟩
theorem acr_some {k : Int} (h : isFmt k = true) : 0 < acr k ∧ 0 < dow k := by
 rcases fmt_cases k with rfl | rfl | rfl | rfl | rfl | rfl | ⟨h2, _⟩
 case _ | _ | _ | _ | _ | _ => decide +kernel
 rw [h] at h2
 cases h2
theorem cells_none {k : Int} (h : isFmt k = false) : cells k = 0 := by
 unfold cells
 rw [(acr_none h).1, Nat.zero_mul]
theorem cells_most (k : Int) : cells k ≤ 6336 := Nat.mul_le_mul (acr_fmt k).2.2.2.2.1 (acr_fmt k).2.2.2.2.2
end Go.Proofs.Ytgbnpmpkfkijdaa
