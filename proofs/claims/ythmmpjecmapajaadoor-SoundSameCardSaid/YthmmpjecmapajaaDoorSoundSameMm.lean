/- Texts that SoundSame's proof stands on, part 13 of 48. No condition of its own. -/
import Derived.Test.YthmmpjecmapajaaDoorSoundSameMa
import Derived.Test.YthmmpjecmapajaaDoorRows
import Derived.WalkKit
import Derived.WalkMore
import Derived.ProofKit
namespace Go.Proofs.YthmmpjecmapajaaDoor
open Go.RowKit
set_option maxHeartbeats 1000000 in
theorem fsize_code (k : Int) (w : World) : Calls Tryd.prog 65 #[.int .i64 k] w fun e w' => e = .returned (.tuple #[.int .i64 (fmtW k), .int .i64 (fmtH k), .bool (isFmt k)]) ∧ w = w' := by
 rcases fmt_cases k with rfl | rfl | rfl | rfl | rfl | rfl | ⟨h, hv⟩
 case _ | _ | _ | _ | _ | _ =>
  go_enter Tryd.func65, Tryd.ntmps65
  go_wp2
  go_ret3
  exact ⟨rfl, rfl⟩
 obtain ⟨t1, t2, t3, t4, t5, t6⟩ := fmt_none h
 unfold fmtW fmtH
 rw [h, hv]
 clear h hv
 go_enter Tryd.func65, Tryd.ntmps65
 go_wp2
 go_ret3
 exact ⟨rfl, rfl⟩
set_option maxHeartbeats 1000000 in
theorem frows_code (k : Int) (w : World) : Calls Tryd.prog 32 #[.int .i64 k] w fun e w' => e = .returned (.tuple #[.int .i64 (fmtR k), .int .i64 (fmtL k)]) ∧ w = w' := by
 rcases fmt_cases k with rfl | rfl | rfl | rfl | rfl | rfl | ⟨h, hv⟩
 case _ | _ | _ | _ | _ | _ =>
  go_enter Tryd.func32, Tryd.ntmps32
  go_wp2
  go_ret2
  exact ⟨rfl, rfl⟩
 obtain ⟨t1, t2, t3, t4, t5, t6⟩ := fmt_none h
 unfold fmtR fmtL
 rw [hv]
 clear h hv
 go_enter Tryd.func32, Tryd.ntmps32
 go_wp2
 go_ret2
 exact ⟨rfl, rfl⟩
def fmtA (k : Int) : Int := fmtW k / 16
def fmtD (k : Int) : Int := fmtH k / 16
set_option maxHeartbeats 1000000 in
theorem fcells_code (k : Int) (w : World) : Calls Tryd.prog 48 #[.int .i64 k] w fun e w' => e = .returned (.tuple #[.int .i64 (fmtA k), .int .i64 (fmtD k)]) ∧ w = w' := by
 have c := fsize_code k w
 have hv : (fmtW k).tdiv 16 = fmtA k ∧ (fmtH k).tdiv 16 = fmtD k := by
  rcases fmt_cases k with rfl | rfl | rfl | rfl | rfl | rfl | ⟨_, hv⟩
  case _ | _ | _ | _ | _ | _ => exact ⟨rfl, rfl⟩
  unfold fmtA fmtD fmtW fmtH
  rw [hv]
  exact ⟨rfl, rfl⟩
 have hw : IntKind.i64.wrap (fmtA k) = fmtA k ∧ IntKind.i64.wrap (fmtD k) = fmtD k := by
  rcases fmt_cases k with rfl | rfl | rfl | rfl | rfl | rfl | ⟨_, hv⟩
  case _ | _ | _ | _ | _ | _ => exact ⟨rfl, rfl⟩
  unfold fmtA fmtD fmtW fmtH
  rw [hv]
  exact ⟨rfl, rfl⟩
 obtain ⟨v1, v2⟩ := hv
 obtain ⟨v3, v4⟩ := hw
 generalize fmtW k = a at c v1
 generalize fmtH k = b at c v2
 generalize fmtA k = a2 at v1 v3 ⊢
 generalize fmtD k = b2 at v2 v4 ⊢
 go_enter Tryd.func48, Tryd.ntmps48
 go_wp2_with (first | (with_reducible refine c.mono ?_; rintro e w1 ⟨rfl, rfl⟩))
 go_ret2
 exact ⟨rfl, rfl⟩
theorem fmt_heap (w : World) (o1 o2 : Obj) : ((w.alloc o1).alloc o2).heap[w.heap.size]? = some o1 := by
 show ((w.heap.push o1).push o2)[w.heap.size]? = some o1
 rw [Array.getElem?_push, if_neg (by simp)]
 simp
theorem fmt_below (w : World) (o1 o2 : Obj) : Below w.heap.size w ((w.alloc o1).alloc o2) := ((Below.refl _ w).alloc (Nat.le_refl _) _).alloc (by simp) _
def fmtG (k : Int) : Array Value := #[.int .i64 (fmtW k), .int .i64 (fmtH k), .int .i64 (fmtR k), .int .i64 (fmtL k)]
set_option maxHeartbeats 2000000 in
theorem fpage_code (k : Int) (w : World) : Calls Tryd.prog 22 #[.int .i64 k] w fun e w' => e = .returned (.agg (fmtG k)) ∧ Below w.heap.size w w' := by
 by_cases hk : k < 0 ∨ 6 < k
 ·have hv : fmtG k = #[.int .i64 0, .int .i64 0, .int .i64 0, .int .i64 0] := by
   have hf : fmtV k = (0, 0, 0, 0) := by
    unfold fmtV
    rw [if_neg (by omega), if_neg (by omega), if_neg (by omega), if_neg (by omega), if_neg (by omega), if_neg (by omega)]
   unfold fmtG fmtW fmtH fmtR fmtL
   rw [hf]
  rw [hv]
  clear hv
  by_cases hn : k < 0
  ·have t0 : decide (k < 0) = true := by simpa using hn
   clear hk hn
   go_enter Tryd.func22, Tryd.ntmps22
   go_wp2
   exact bodyPost_ret (results_cell_row rfl _ _ w.heap.size 49 _ (0, 0) _ rfl (fmt_heap w _ _) Tryd.underlying49 rfl (by kernel_rfl)) rfl ⟨rfl, fmt_below w _ _⟩
  ·have t0 : decide (k < 0) = false := by simpa using hn
   have t1 : decide (7 ≤ k) = true := by simp; omega
   clear hk hn
   go_enter Tryd.func22, Tryd.ntmps22
   go_wp2
   exact bodyPost_ret (results_cell_row rfl _ _ w.heap.size 49 _ (0, 0) _ rfl (fmt_heap w _ _) Tryd.underlying49 rfl (by kernel_rfl)) rfl ⟨rfl, fmt_below w _ _⟩
 have hk2 : k = 0 ∨ k = 1 ∨ k = 2 ∨ k = 3 ∨ k = 4 ∨ k = 5 ∨ k = 6 := by omega
 clear hk
 rcases hk2 with rfl | rfl | rfl | rfl | rfl | rfl | rfl
 all_goals
  go_enter Tryd.func22, Tryd.ntmps22
  go_wp2
  exact bodyPost_ret (results_cell_row rfl _ _ w.heap.size 49 _ (0, 0) _ rfl (fmt_heap w _ _) Tryd.underlying49 rfl (by kernel_rfl)) rfl ⟨rfl, fmt_below w _ _⟩
end Go.Proofs.YthmmpjecmapajaaDoor

namespace Go.Proofs.YthmmpjecmapajaaDoor
def acr (k : Int) : Nat := (fmtA k).toNat
def dow (k : Int) : Nat := (fmtD k).toNat
def wid (k : Int) (p : Nat) : Nat := if p = 0 then 16 * acr k else 8 * acr k
def cells (k : Int) : Nat := acr k * dow k
theorem acr_fmt (k : Int) : (acr k : Int) = fmtA k ∧ (dow k : Int) = fmtD k ∧ fmtW k = 16 * (acr k : Int) ∧ fmtH k = 16 * (dow k : Int) ∧ acr k ≤ 88 ∧ dow k ≤ 72 := by
 rcases fmt_cases k with rfl | rfl | rfl | rfl | rfl | rfl | ⟨h, hv⟩
 case _ | _ | _ | _ | _ | _ => decide +kernel
 unfold acr dow fmtA fmtD fmtW fmtH
 rw [hv]
 decide +kernel
theorem acr_none {k : Int} (h : isFmt k = false) : acr k = 0 ∧ dow k = 0 := by
 rcases fmt_cases k with rfl | rfl | rfl | rfl | rfl | rfl | ⟨_, hv⟩
 case _ | _ | _ | _ | _ | _ => cases h
 unfold acr dow fmtA fmtD fmtW fmtH
 rw [hv]
 exact ⟨rfl, rfl⟩
theorem cells_none {k : Int} (h : isFmt k = false) : cells k = 0 := by
 unfold cells
 rw [(acr_none h).1, Nat.zero_mul]
theorem cells_most (k : Int) : cells k ≤ 6336 := Nat.mul_le_mul (acr_fmt k).2.2.2.2.1 (acr_fmt k).2.2.2.2.2
def plc (b : Nat) : Nat := if b < 4 then 0 else b - 3
def col (k : Int) (n b : Nat) : Nat := if b < 4 then 2 * (n % acr k) + b % 2 else n % acr k
def lin (k : Int) (n b : Nat) : Nat := if b < 4 then 2 * (n / acr k) + b / 2 else n / acr k
def fst8 (k : Int) (n b : Nat) : Nat := 8 * (lin k n b * wid k (plc b) + col k n b)
def pos (k : Int) (n b i : Nat) : Nat := fst8 k n b + i / 8 * wid k (plc b) + i % 8
theorem cell_parts {k : Int} {n : Nat} (h : n < cells k) : 0 < acr k ∧ n % acr k < acr k ∧ n / acr k < dow k := by
 have h0 : 0 < acr k := by
  rcases Nat.eq_zero_or_pos (acr k) with h1 | h1
  ·unfold cells at h; rw [h1, Nat.zero_mul] at h; cases h
  ·exact h1
 exact ⟨h0, Nat.mod_lt _ h0, Nat.div_lt_of_lt_mul h⟩
end Go.Proofs.YthmmpjecmapajaaDoor

namespace Go.Proofs.YthmmpjecmapajaaDoor
open Go.RowKit
def hasC (k n : Int) : Bool := decide (0 ≤ n) && decide (n < (cells k : Int))
theorem hasC_iff {k n : Int} : hasC k n = true ↔ 0 ≤ n ∧ n.toNat < cells k := by
 unfold hasC
 simp
 omega
def reachV (c m : Nat) (v : Int) : Bool := decide (-32 ≤ v ∧ v ≤ 31) && decide (0 ≤ 32 * (c : Int) + v ∧ 32 * (c : Int) + v + 30 ≤ 32 * (m : Int) - 2)
def mayV (k n a b : Int) : Bool := hasC k n && (reachV (n.toNat % acr k) (acr k) a && reachV (n.toNat / acr k) (dow k) b)
end Go.Proofs.YthmmpjecmapajaaDoor
