/- By no motion a cell is as it is cut; out of a flat frame it is flat; samples lie between the least and the greatest. Plain numbers. No condition. -/
import Derived.Test.YtnpmllbdpmkliaaVin
namespace Go.Proofs.Ytnpmllbdpmkliaa

theorem vecB_zero (b : Nat) : vecB b 0 = 0 := by unfold vecB; rw [chrV_zero]; split <;> rfl
theorem still_cut (k : Int) (m : Nat) (f : Nat → Nat → Int) : ∀ s, predF k m f 0 0 s = cutF k m f s := by
  intro s
  unfold predF cutF blkT halfF lefB topB
  rw [vecB_zero]
  have e1 : ((16 * (col k m (s / 64) : Int) + 0).toNat + 2 * (s % 64 % 8)) = 2 * (8 * col k m (s / 64) + s % 64 % 8) := by omega
  have e2 : ((16 * (lin k m (s / 64) : Int) + 0).toNat + 2 * (s % 64 / 8)) = 2 * (8 * lin k m (s / 64) + s % 64 / 8) := by omega
  rw [e1, e2, Nat.mul_div_cancel_left _ (by omega), Nat.mul_div_cancel_left _ (by omega), Nat.mul_mod_right, Nat.mul_mod_right, Nat.zero_mul, Nat.add_zero, pos_page]
  generalize f (plc (s / 64)) (pos k m (s / 64) (s % 64)) = z
  omega
theorem may_zero {k : Int} {m : Nat} (h : m < cells k) : mayV k m 0 0 = true := by
  obtain ⟨h0, h1, h2⟩ := cell_parts h
  refine mayV_iff.2 ⟨⟨by omega, by simpa using h⟩, ?_, ?_⟩
  · rw [Int.toNat_natCast]
    exact reachV_iff.2 ⟨by omega, by omega, by omega⟩
  · rw [Int.toNat_natCast]
    generalize m / acr k = y at *
    exact reachV_iff.2 ⟨by omega, by omega, by omega⟩
theorem flat_pred (k : Int) (m : Nat) (c a b : Int) : ∀ s, predF k m (fun _ _ => c) a b s = c := by
  intro s
  unfold predF blkT halfF
  show (c + c + (c + c) + 2) / 4 = c
  omega
theorem pred_between {k : Int} {m : Nat} {f : Nat → Nat → Int} {a b lo hi : Int} {t i : Nat} (hm : m < cells k) (hy : mayV k m a b = true) (ht : t < 6) (hi64 : i < 64)
    (hl : ∀ j, j < siz k (plc t) → lo ≤ f (plc t) j ∧ f (plc t) j ≤ hi) : lo ≤ predF k m f a b (64 * t + i) ∧ predF k m f a b (64 * t + i) ≤ hi := by
  obtain ⟨-, hu, hv⟩ := mayV_iff.1 hy
  rw [Int.toNat_natCast] at hu hv
  obtain ⟨-, -, -, -, e5⟩ := pred_in (b := t) hm hu hv ht
  have e6 := e5 i hi64
  have hq := pred_block k m f a b t i hi64
  unfold blkT halfF at hq
  rw [← hq]
  generalize lefB k m t a + 2 * (i % 8) = x at *
  generalize topB k m t b + 2 * (i / 8) = y at *
  have q0 := hl (y / 2 * wid k (plc t) + x / 2) (by omega)
  have q1 := hl (y / 2 * wid k (plc t) + x / 2 + x % 2) (by omega)
  have q2 := hl (y / 2 * wid k (plc t) + x / 2 + y % 2 * wid k (plc t)) (by omega)
  have q3 := hl (y / 2 * wid k (plc t) + x / 2 + y % 2 * wid k (plc t) + x % 2) (by omega)
  omega
/-- The least and the greatest of the first ones. -/
def lowF (g : Nat → Int) : Nat → Int
  | 0 => g 0
  | j + 1 => min (lowF g j) (g j)
def higF (g : Nat → Int) : Nat → Int
  | 0 => g 0
  | j + 1 => max (higF g j) (g j)
theorem low_all (g : Nat → Int) : ∀ n j, j < n → lowF g n ≤ g j ∧ g j ≤ higF g n
  | 0, j, h => by omega
  | n + 1, j, h => by
    unfold lowF higF
    by_cases e : j = n
    · subst e; omega
    · have := low_all g n j (by omega)
      omega
theorem low_in (g : Nat → Int) {n : Nat} (hn : 0 < n) (hg : ∀ j, j < n → 0 ≤ g j ∧ g j ≤ 255) : ∀ j, j ≤ n → (0 ≤ lowF g j ∧ lowF g j ≤ 255) ∧ 0 ≤ higF g j ∧ higF g j ≤ 255
  | 0, _ => ⟨hg 0 hn, hg 0 hn⟩
  | j + 1, h => by
    have h1 := low_in g hn hg j (by omega)
    have h2 := hg j (by omega)
    unfold lowF higF
    omega
theorem plc_max (t : Nat) : (max 0 ((t : Int) - 3)) = (plc t : Int) := by unfold plc; split <;> omega
end Go.Proofs.Ytnpmllbdpmkliaa
