/- The transform's weights and sums, in plain words. No condition. -/
import Derived.Test.YtegppidfmjcnoaaDoorSums
import Derived.KernelRfl
namespace Go.Proofs.YtegppidfmjcnoaaDoor

def wtZ : List Int := [64, 64, 64, 64, 64, 64, 64, 64, 89, 75, 50, 18, -18, -50, -75, -89, 83, 36, -36, -83, -83, -36, 36, 83, 75, -18, -89, -50, 50, 89, 18, -75, 64, -64, -64, 64, 64, -64, -64, 64, 50, -89, 18, 75, -75, -18, 89, -50, 36, -83, 83, -36, -36, 83, -83, 36, 18, -50, 75, -89, 89, -75, 50, -18]
/-- The weights, row by row. -/
def wt (i : Nat) : Int := wtZ[i]?.getD 0
theorem wt_in : ∀ i, i < 64 → -89 ≤ wt i ∧ wt i ≤ 89 := by decide +kernel
/-- By rows, and by columns. -/
def kF (a x : Nat) : Int := wt (8 * a + x)
def kI (a x : Nat) : Int := wt (8 * x + a)
def InK (k : Nat → Nat → Int) : Prop := ∀ a x, a < 8 → x < 8 → -89 ≤ k a x ∧ k a x ≤ 89
theorem kF_in : InK kF := fun a x ha hx => wt_in _ (by omega)
theorem kI_in : InK kI := fun a x ha hx => wt_in _ (by omega)
/-- What a row tells, and all rows as columns. -/
def rowK (k : Nat → Nat → Int) (b : Nat → Int) (r a : Nat) : Int := sumN 8 fun x => k a x * b (8 * r + x)
def turnK (k : Nat → Nat → Int) (b : Nat → Int) (q : Nat) : Int := rowK k b (q % 8) (q / 8)
def InB (M : Int) (b : Nat → Int) : Prop := ∀ i, i < 64 → -M ≤ b i ∧ b i ≤ M
theorem rowK_part {k : Nat → Nat → Int} {b : Nat → Int} {M : Int} (hk : InK k) (hb : InB M b) (r a : Nat) (hr : r < 8) (ha : a < 8) : ∀ n, n ≤ 8 → -(n * (89 * M)) ≤ sumN n (fun x => k a x * b (8 * r + x)) ∧ sumN n (fun x => k a x * b (8 * r + x)) ≤ n * (89 * M) := by
  intro n hn
  refine sumN_most n fun x hx => ?_
  have h1 := hk a x ha (by omega)
  have h2 := hb (8 * r + x) (by omega)
  exact mul_within h1.1 h1.2 h2.1 h2.2
theorem rowK_some {k : Nat → Nat → Int} {b : Nat → Int} {M : Int} (hk : InK k) (hb : InB M b) (r a : Nat) (hr : r < 8) (ha : a < 8) (n : Nat) (hn : n ≤ 8) : -(712 * M) ≤ sumN n (fun x => k a x * b (8 * r + x)) ∧ sumN n (fun x => k a x * b (8 * r + x)) ≤ 712 * M := by
  have h := rowK_part hk hb r a hr ha n hn
  have h0 := hb 0 (by omega)
  have e : (n : Int) * (89 * M) ≤ 8 * (89 * M) := Int.mul_le_mul_of_nonneg_right (by omega) (by omega)
  omega
theorem rowK_in {k : Nat → Nat → Int} {b : Nat → Int} {M : Int} (hk : InK k) (hb : InB M b) (r a : Nat) (hr : r < 8) (ha : a < 8) : -(712 * M) ≤ rowK k b r a ∧ rowK k b r a ≤ 712 * M := by
  have h := rowK_part hk hb r a hr ha 8 (Nat.le_refl _)
  unfold rowK
  omega
theorem turnK_in {k : Nat → Nat → Int} {b : Nat → Int} {M : Int} (hk : InK k) (hb : InB M b) : InB (712 * M) (turnK k b) := fun q hq => rowK_in hk hb _ _ (by omega) (by omega)
theorem turnK_congr {k : Nat → Nat → Int} {b c : Nat → Int} (h : ∀ i, i < 64 → b i = c i) : ∀ q, q < 64 → turnK k b q = turnK k c q := by
  intro q hq
  refine sumN_congr 8 fun x hx => ?_
  rw [h _ (by omega)]
/-- Both turns, by all numbers at once. -/
theorem turns_twice (k : Nat → Nat → Int) (b : Nat → Int) (p : Nat) : turnK k (turnK k b) p = sumN 8 fun y => sumN 8 fun x => k (p / 8) y * (k (p % 8) x * b (8 * y + x)) := by
  refine sumN_congr 8 fun y hy => ?_
  show k (p / 8) y * rowK k b ((8 * (p % 8) + y) % 8) ((8 * (p % 8) + y) / 8) = _
  rw [show (8 * (p % 8) + y) % 8 = y by omega, show (8 * (p % 8) + y) / 8 = p % 8 by omega]
  exact (sumN_mul _ _ 8).symm
/-- As the page sums. -/
def pageK (k : Nat → Nat → Int) (b : Nat → Int) (p i : Nat) : Int := k (p % 8) (i % 8) * k (p / 8) (i / 8) * b i
theorem turns_page (k : Nat → Nat → Int) (b : Nat → Int) (p : Nat) : turnK k (turnK k b) p = sumN 64 (pageK k b p) := by
  rw [turns_twice k b p, show (64 : Nat) = 8 * 8 from rfl, sumN_rows]
  refine sumN_congr 8 fun y hy => sumN_congr 8 fun x hx => ?_
  unfold pageK
  rw [show (8 * y + x) % 8 = x by omega, show (8 * y + x) / 8 = y by omega, ← Int.mul_assoc, Int.mul_comm (k (p / 8) y)]
/-- Clipped numbers, and sums rounded and clipped. -/
def clipB (f : Nat → Int) (i : Nat) : Int := clip (f i) (-2048) 2047
theorem clipB_in (f : Nat → Int) : InB 2048 (clipB f) := fun i _ => ⟨clip_lo _ _ _, Int.le_trans (clip_hi _ _ _ (by omega)) (by omega)⟩
def rdB (lo hi : Int) (b : Nat → Int) (i : Nat) : Int := clip (round (b i) 15) lo hi
def dctK (k : Nat → Nat → Int) (lo hi : Int) (f : Nat → Int) : Nat → Int := rdB lo hi (turnK k (turnK k (clipB f)))
def fwdB : (Nat → Int) → Nat → Int := dctK kF (-2048) 2047
def invB : (Nat → Int) → Nat → Int := dctK kI (-256) 255
theorem dctK_congr {k : Nat → Nat → Int} {lo hi : Int} {f g : Nat → Int} (h : ∀ i, i < 64 → f i = g i) : ∀ p, p < 64 → dctK k lo hi f p = dctK k lo hi g p := by
  intro p hp
  unfold dctK rdB
  rw [turnK_congr (turnK_congr (c := clipB g) fun i hi => by unfold clipB; rw [h i hi]) p hp]
/-- Rows for columns. -/
def trB (f : Nat → Int) (i : Nat) : Int := f (8 * (i % 8) + i / 8)
theorem dctK_turns (k : Nat → Nat → Int) (lo hi : Int) (f : Nat → Int) : ∀ p, p < 64 → dctK k lo hi (trB f) p = trB (dctK k lo hi f) p := by
  intro p hp
  show clip (round (turnK k (turnK k (clipB (trB f))) p) 15) lo hi = clip (round (turnK k (turnK k (clipB f)) (8 * (p % 8) + p / 8)) 15) lo hi
  rw [turns_twice k _ p, turns_twice k _ (8 * (p % 8) + p / 8), sumN_turn]
  rw [show (8 * (p % 8) + p / 8) % 8 = p / 8 by omega, show (8 * (p % 8) + p / 8) / 8 = p % 8 by omega]
  congr 2
  refine sumN_congr 8 fun x hx => sumN_congr 8 fun y hy => ?_
  unfold clipB trB
  rw [show 8 * ((8 * y + x) % 8) + (8 * y + x) / 8 = 8 * x + y by omega, ← Int.mul_assoc, ← Int.mul_assoc, Int.mul_comm (k (p / 8) y)]
/-! ### Flat blocks, and first numbers alone -/
theorem round15 (n : Int) (h1 : -1099511627776 ≤ n) (h2 : n ≤ 1099511627776) : round n 15 = (n + 16384) / 32768 := by
  unfold round
  rw [show clip 15 0 32 = 15 from rfl, if_neg (by omega), clip_of _ _ _ h1 h2]
  rfl
theorem kF_sum : ∀ a, a < 8 → sumN 8 (fun x => kF a x) = if a = 0 then 512 else 0 := by decide +kernel
theorem turn_flat (c : Int) : ∀ q, q < 64 → turnK kF (fun _ => c) q = if q / 8 = 0 then 512 * c else 0 := by
  intro q hq
  unfold turnK rowK
  rw [sumN_congr 8 (h := fun x => c * kF (q / 8) x) fun x _ => Int.mul_comm _ _, sumN_mul, kF_sum _ (by omega)]
  split
  · exact Int.mul_comm _ _
  · exact Int.mul_zero _
theorem turn_first (c : Int) : ∀ q, q < 64 → turnK kF (fun q => if q / 8 = 0 then c else 0) q = if q = 0 then 512 * c else 0 := by
  intro q hq
  unfold turnK rowK
  by_cases h : q % 8 = 0
  · rw [sumN_congr 8 (h := fun x => c * kF (q / 8) x) fun x hx => by show kF (q / 8) x * (if (8 * (q % 8) + x) / 8 = 0 then c else 0) = _; rw [if_pos (by omega)]; exact Int.mul_comm _ _, sumN_mul, kF_sum _ (by omega)]
    by_cases e : q = 0
    · subst e
      exact Int.mul_comm _ _
    · rw [if_neg (by omega), if_neg e]
      exact Int.mul_zero _
  · rw [sumN_congr 8 (h := fun _ => 0) fun x hx => by show kF (q / 8) x * (if (8 * (q % 8) + x) / 8 = 0 then c else 0) = _; rw [if_neg (by omega)]; exact Int.mul_zero _, sumN_nought, if_neg (by omega)]
/-- A flat block there. -/
def flatTo (n : Int) (p : Nat) : Int := if p = 0 then clip (8 * clip n (-2048) 2047) (-2048) 2047 else 0
theorem fwd_flat (n : Int) : ∀ p, p < 64 → fwdB (fun _ => n) p = flatTo n p := by
  intro p hp
  have h1 := clip_lo n (-2048) 2047
  have h2 := clip_hi n (-2048) 2047 (by omega)
  unfold flatTo
  show clip (round (turnK kF (turnK kF fun _ => clip n (-2048) 2047) p) 15) (-2048) 2047 = _
  rw [turnK_congr (c := fun q => if q / 8 = 0 then 512 * clip n (-2048) 2047 else 0) (turn_flat (clip n (-2048) 2047)) p hp, turn_first _ p hp]
  generalize clip n (-2048) 2047 = c at h1 h2 ⊢
  by_cases e : p = 0
  · rw [if_pos e, if_pos e, round15 _ (by omega) (by omega), show (512 * (512 * c) + 16384) / 32768 = 8 * c by omega]
  · rw [if_neg e, if_neg e]
    rfl
theorem kI_none : ∀ a, a < 8 → kI a 0 = 64 := by decide +kernel
/-- A first number alone. -/
def oneF (n : Int) (i : Nat) : Int := if i = 0 then n else 0
theorem turn_one (c : Int) : ∀ q, q < 64 → turnK kI (oneF c) q = if q % 8 = 0 then 64 * c else 0 := by
  intro q hq
  have h0 := kI_none (q / 8) (by omega)
  unfold turnK rowK
  by_cases h : q % 8 = 0
  · rw [if_pos h, h, sumN_congr 8 (h := fun x => oneF (64 * c) x) fun x hx => by
      unfold oneF
      by_cases e : x = 0
      · subst e
        rw [if_pos rfl, if_pos rfl, h0]
      · rw [if_neg (by omega), if_neg e]
        exact Int.mul_zero _]
    simp [sumN, oneF]
  · rw [if_neg h, sumN_congr 8 (h := fun _ => 0) fun x hx => by
      unfold oneF
      rw [if_neg (by omega)]
      exact Int.mul_zero _]
    exact sumN_nought 8
theorem turn_all (c : Int) : ∀ q, q < 64 → turnK kI (fun q => if q % 8 = 0 then c else 0) q = 64 * c := by
  intro q hq
  have h0 := kI_none (q / 8) (by omega)
  unfold turnK rowK
  rw [sumN_congr 8 (h := fun x => oneF (64 * c) x) fun x hx => by
    show kI (q / 8) x * (if (8 * (q % 8) + x) % 8 = 0 then c else 0) = if x = 0 then 64 * c else 0
    by_cases e : x = 0
    · subst e
      rw [if_pos (by omega), if_pos rfl, h0]
    · rw [if_neg (by omega), if_neg e]
      exact Int.mul_zero _]
  simp [sumN, oneF]
def oneTo (n : Int) : Int := clip ((clip n (-2048) 2047 + 4) / 8) (-256) 255
theorem inv_one (n : Int) : ∀ p, p < 64 → invB (oneF n) p = oneTo n := by
  intro p hp
  have h1 := clip_lo n (-2048) 2047
  have h2 := clip_hi n (-2048) 2047 (by omega)
  have e0 : ∀ i, i < 64 → clipB (oneF n) i = oneF (clip n (-2048) 2047) i := by
    intro i _
    unfold clipB oneF
    by_cases e : i = 0
    · rw [if_pos e, if_pos e]
    · rw [if_neg e, if_neg e]
      rfl
  unfold invB dctK rdB oneTo
  rw [turnK_congr (turnK_congr e0) p hp, turnK_congr (turn_one (clip n (-2048) 2047)) p hp, turn_all _ p hp]
  generalize clip n (-2048) 2047 = c at h1 h2 ⊢
  rw [round15 _ (by omega) (by omega), show (64 * (64 * c) + 16384) / 32768 = (c + 4) / 8 by omega]
end Go.Proofs.YtegppidfmjcnoaaDoor
