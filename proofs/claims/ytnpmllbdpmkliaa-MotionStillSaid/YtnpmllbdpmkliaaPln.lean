/- Plain numbers of frames: how great planes are, where a cell's samples stand, what a patch leaves where it is laid, that every sample is some cell's. No condition. -/
import Derived.Test.YtnpmllbdpmkliaaFmt
namespace Go.Proofs.Ytnpmllbdpmkliaa

/-- Cells side by side, lines of them, a plane's width, height, samples, and how many cells there are. -/
def acr (k : Int) : Nat := (fmtA k).toNat
def dow (k : Int) : Nat := (fmtD k).toNat
def wid (k : Int) (p : Nat) : Nat := if p = 0 then 16 * acr k else 8 * acr k
def hei (k : Int) (p : Nat) : Nat := if p = 0 then 16 * dow k else 8 * dow k
def siz (k : Int) (p : Nat) : Nat := wid k p * hei k p
def cells (k : Int) : Nat := acr k * dow k
theorem acr_fmt (k : Int) : (acr k : Int) = fmtA k ∧ (dow k : Int) = fmtD k ∧ fmtW k = 16 * (acr k : Int) ∧ fmtH k = 16 * (dow k : Int) ∧ acr k ≤ 88 ∧ dow k ≤ 72 := by
  rcases fmt_cases k with rfl | rfl | rfl | rfl | rfl | rfl | ⟨h, hv⟩
  case _ | _ | _ | _ | _ | _ => decide +kernel
  unfold acr dow fmtA fmtD fmtW fmtH
  rw [hv]
  decide +kernel
theorem acr_none {k : Int} (h : isFmt k = false) : acr k = 0 ∧ dow k = 0 := by
  rcases fmt_cases k with rfl | rfl | rfl | rfl | rfl | rfl | ⟨_, hv⟩
  case _ | _ | _ | _ | _ | _ => cases h
  unfold acr dow fmtA fmtD fmtW fmtH
  rw [hv]
  exact ⟨rfl, rfl⟩
theorem acr_some {k : Int} (h : isFmt k = true) : 0 < acr k ∧ 0 < dow k := by
  rcases fmt_cases k with rfl | rfl | rfl | rfl | rfl | rfl | ⟨h2, _⟩
  case _ | _ | _ | _ | _ | _ => decide +kernel
  rw [h] at h2
  cases h2
theorem cells_none {k : Int} (h : isFmt k = false) : cells k = 0 := by
  unfold cells
  rw [(acr_none h).1, Nat.zero_mul]
theorem cells_most (k : Int) : cells k ≤ 6336 := Nat.mul_le_mul (acr_fmt k).2.2.2.2.1 (acr_fmt k).2.2.2.2.2
theorem cells_fmt {k : Int} {n : Nat} (h : n < cells k) : isFmt k = true := by
  cases hq : isFmt k with
  | true => rfl
  | false => rw [cells_none hq] at h; cases h
theorem fmtP_at (k : Int) (p : Nat) (hp : p < 3) : fmtP k (p : Int) = ((wid k p : Int), (hei k p : Int)) := by
  obtain ⟨_, _, h3, h4, _⟩ := acr_fmt k
  unfold fmtP wid hei
  match p, hp with
  | 0, _ => simp [h3, h4]
  | 1, _ => simp [h3, h4]; omega
  | 2, _ => simp [h3, h4]; omega
theorem wid_most (k : Int) (p : Nat) : wid k p ≤ 1408 ∧ hei k p ≤ 1152 := by
  have := acr_fmt k
  unfold wid hei
  split <;> omega
theorem siz_most (k : Int) (p : Nat) : siz k p ≤ 1622016 := Nat.mul_le_mul (wid_most k p).1 (wid_most k p).2
theorem siz_some {k : Int} (h : isFmt k = true) (p : Nat) : 0 < siz k p := by
  have := acr_some h
  refine Nat.mul_pos ?_ ?_
  · unfold wid; split <;> omega
  · unfold hei; split <;> omega
theorem siz_none {k : Int} (h : isFmt k = false) (p : Nat) : siz k p = 0 := by
  unfold siz wid hei
  rw [(acr_none h).1]
  split <;> simp

/-- A block's plane, column and line of blocks, its first sample; where a sample of it stands. -/
def plc (b : Nat) : Nat := if b < 4 then 0 else b - 3
def col (k : Int) (n b : Nat) : Nat := if b < 4 then 2 * (n % acr k) + b % 2 else n % acr k
def lin (k : Int) (n b : Nat) : Nat := if b < 4 then 2 * (n / acr k) + b / 2 else n / acr k
def fst8 (k : Int) (n b : Nat) : Nat := 8 * (lin k n b * wid k (plc b) + col k n b)
def pos (k : Int) (n b i : Nat) : Nat := fst8 k n b + i / 8 * wid k (plc b) + i % 8
theorem plc_most {b : Nat} (h : b < 6) : plc b < 3 := by unfold plc; split <;> omega
theorem cell_parts {k : Int} {n : Nat} (h : n < cells k) : 0 < acr k ∧ n % acr k < acr k ∧ n / acr k < dow k := by
  have h0 : 0 < acr k := by
    rcases Nat.eq_zero_or_pos (acr k) with h1 | h1
    · unfold cells at h; rw [h1, Nat.zero_mul] at h; cases h
    · exact h1
  exact ⟨h0, Nat.mod_lt _ h0, Nat.div_lt_of_lt_mul h⟩
theorem col_most {k : Int} {n b : Nat} (h : n < cells k) (hb : b < 6) : 8 * col k n b + 8 ≤ wid k (plc b) := by
  obtain ⟨_, h2, _⟩ := cell_parts h
  unfold col wid plc
  by_cases h4 : b < 4
  · simp only [if_pos h4, if_true]; omega
  · simp only [if_neg h4, if_neg (show ¬ b - 3 = 0 by omega)]; omega
theorem lin_most {k : Int} {n b : Nat} (h : n < cells k) (hb : b < 6) : 8 * lin k n b + 8 ≤ hei k (plc b) := by
  obtain ⟨_, _, h2⟩ := cell_parts h
  unfold lin hei plc
  by_cases h4 : b < 4
  · simp only [if_pos h4, if_true]; omega
  · simp only [if_neg h4, if_neg (show ¬ b - 3 = 0 by omega)]; omega
theorem fst8_line (k : Int) (n b y : Nat) : fst8 k n b + y * wid k (plc b) = (8 * lin k n b + y) * wid k (plc b) + 8 * col k n b := by
  unfold fst8
  rw [Nat.add_mul, Nat.mul_add, Nat.mul_assoc]
  omega
theorem line_in {k : Int} {n b y : Nat} (h : n < cells k) (hb : b < 6) (hy : y < 8) : fst8 k n b + y * wid k (plc b) + 8 ≤ siz k (plc b) := by
  have h1 := col_most h hb
  have h2 := lin_most h hb
  rw [fst8_line]
  have h3 : (8 * lin k n b + y + 1) * wid k (plc b) ≤ hei k (plc b) * wid k (plc b) := Nat.mul_le_mul_right _ (by omega)
  rw [Nat.succ_mul] at h3
  unfold siz
  rw [Nat.mul_comm (wid k (plc b))]
  omega
theorem pos_in {k : Int} {n b i : Nat} (h : n < cells k) (hb : b < 6) (hi : i < 64) : pos k n b i < siz k (plc b) := by
  have := line_in (y := i / 8) h hb (by omega)
  unfold pos
  omega
theorem pos_page (k : Int) (n b i : Nat) : (8 * lin k n b + i / 8) * wid k (plc b) + (8 * col k n b + i % 8) = pos k n b i := by
  unfold pos
  rw [fst8_line]
  omega

/-- A cell's patch; what a patch leaves, sample by sample. -/
def cutF (k : Int) (n : Nat) (f : Nat → Nat → Int) : Nat → Int := fun s => f (plc (s / 64)) (pos k n (s / 64) (s % 64))
def layF (k : Int) (n : Nat) (pt : Nat → Int) (f : Nat → Nat → Int) : Nat → Nat → Nat → Int
  | 0 => f
  | s + 1 => fun p j => if p = plc (s / 64) ∧ j = pos k n (s / 64) (s % 64) then clip (pt s) 0 255 else layF k n pt f s p j
theorem lay_row (k : Int) (n : Nat) (pt : Nat → Int) (f : Nat → Nat → Int) (b y : Nat) (hy : y < 8) (p j : Nat) : ∀ m, m ≤ 8 →
    layF k n pt f (64 * b + 8 * y + m) p j = if p = plc b ∧ fst8 k n b + y * wid k (plc b) ≤ j ∧ j < fst8 k n b + y * wid k (plc b) + m then clip (pt (64 * b + 8 * y + (j - (fst8 k n b + y * wid k (plc b))))) 0 255 else layF k n pt f (64 * b + 8 * y) p j
  | 0, _ => by
    rw [if_neg (by omega)]
    rfl
  | m + 1, hm => by
    have ih := lay_row k n pt f b y hy p j m (by omega)
    show (if p = plc ((64 * b + 8 * y + m) / 64) ∧ j = pos k n ((64 * b + 8 * y + m) / 64) ((64 * b + 8 * y + m) % 64) then clip (pt (64 * b + 8 * y + m)) 0 255 else layF k n pt f (64 * b + 8 * y + m) p j) = _
    have e1 : (64 * b + 8 * y + m) / 64 = b := by omega
    have e2 : (64 * b + 8 * y + m) % 64 = 8 * y + m := by omega
    have e3 : pos k n b (8 * y + m) = fst8 k n b + y * wid k (plc b) + m := by
      unfold pos
      rw [show (8 * y + m) / 8 = y by omega, show (8 * y + m) % 8 = m by omega]
    rw [e1, e2, e3, ih]
    generalize fst8 k n b + y * wid k (plc b) = q
    by_cases h1 : p = plc b ∧ j = q + m
    · rw [if_pos h1, if_pos (by omega), show j - q = m by omega]
    · rw [if_neg h1]
      by_cases h2 : p = plc b ∧ q ≤ j ∧ j < q + m
      · rw [if_pos h2, if_pos (by omega)]
      · rw [if_neg h2, if_neg (by omega)]
theorem layF_in (k : Int) (n : Nat) (pt : Nat → Int) {f : Nat → Nat → Int} (h : ∀ p j, 0 ≤ f p j ∧ f p j ≤ 255) : ∀ s p j, 0 ≤ layF k n pt f s p j ∧ layF k n pt f s p j ≤ 255
  | 0, p, j => h p j
  | s + 1, p, j => by
    have ih := layF_in k n pt h s p j
    unfold layF
    split
    · exact ⟨clip_lo _ _ _, clip_hi _ _ _ (by omega)⟩
    · exact ih

/-- Two contents that agree are laid alike. -/
theorem layF_same (k : Int) (n : Nat) (pt : Nat → Int) {f g : Nat → Nat → Int} {p j : Nat} (h : f p j = g p j) : ∀ s, layF k n pt f s p j = layF k n pt g s p j
  | 0 => h
  | s + 1 => by
    unfold layF
    rw [layF_same k n pt h s]
/-- A frame's own patch, laid on anything: what is a frame's sample stays one. -/
theorem back_keep (k : Int) (n : Nat) (f g : Nat → Nat → Int) (hf : ∀ p j, 0 ≤ f p j ∧ f p j ≤ 255) {p j : Nat} (h : g p j = f p j) : ∀ s, layF k n (cutF k n f) g s p j = f p j
  | 0 => h
  | s + 1 => by
    unfold layF
    split
    · next h1 =>
      unfold cutF
      rw [clip_of _ _ _ (hf _ _).1 (hf _ _).2, h1.1, h1.2]
    · exact back_keep k n f g hf h s
/-- .. and what is the cell's is the frame's. -/
theorem back_cell (k : Int) (n : Nat) (f g : Nat → Nat → Int) (hf : ∀ p j, 0 ≤ f p j ∧ f p j ≤ 255) (b i : Nat) (hi : i < 64) : ∀ s, 64 * b + i < s → layF k n (cutF k n f) g s (plc b) (pos k n b i) = f (plc b) (pos k n b i)
  | s + 1, hs => by
    unfold layF
    split
    · next h1 =>
      unfold cutF
      rw [clip_of _ _ _ (hf _ _).1 (hf _ _).2, ← h1.1, ← h1.2]
    · next h1 =>
      by_cases e : 64 * b + i = s
      · subst e
        exact absurd ⟨by rw [show (64 * b + i) / 64 = b by omega], by rw [show (64 * b + i) / 64 = b by omega, show (64 * b + i) % 64 = i by omega]⟩ h1
      · exact back_cell k n f g hf b i hi s (by omega)

/-- Every sample is some cell's. -/
theorem some_cell {k : Int} {p j : Nat} (hp : p < 3) (hj : j < siz k p) : ∃ n b i, n < cells k ∧ b < 6 ∧ i < 64 ∧ plc b = p ∧ pos k n b i = j := by
  have hW : 0 < wid k p := by
    rcases Nat.eq_zero_or_pos (wid k p) with h | h
    · unfold siz at hj; rw [h, Nat.zero_mul] at hj; cases hj
    · exact h
  have hc : j % wid k p < wid k p := Nat.mod_lt _ hW
  have hr : j / wid k p < hei k p := Nat.div_lt_of_lt_mul hj
  have hjj : j / wid k p * wid k p + j % wid k p = j := by rw [Nat.mul_comm]; exact Nat.div_add_mod j _
  generalize j / wid k p = r at hr hjj
  generalize j % wid k p = c at hc hjj
  have ha : 0 < acr k := by unfold wid at hW; split at hW <;> omega
  have at_cell : ∀ x y, x < acr k → y < dow k → y * acr k + x < cells k ∧ (y * acr k + x) % acr k = x ∧ (y * acr k + x) / acr k = y := by
    intro x y hx hy
    refine ⟨?_, ?_, ?_⟩
    · have : (y + 1) * acr k ≤ dow k * acr k := Nat.mul_le_mul_right _ hy
      rw [Nat.add_mul] at this
      unfold cells
      rw [Nat.mul_comm (acr k)]
      omega
    · rw [Nat.add_comm, Nat.add_mul_mod_self_right]; exact Nat.mod_eq_of_lt hx
    · rw [Nat.add_comm, Nat.add_mul_div_right _ _ ha, Nat.div_eq_of_lt hx]; omega
  by_cases h0 : p = 0
  · subst h0
    have hc' : c < 16 * acr k := hc
    have hr' : r < 16 * dow k := hr
    obtain ⟨h1, h2, h3⟩ := at_cell (c / 16) (r / 16) (by omega) (by omega)
    refine ⟨r / 16 * acr k + c / 16, r / 8 % 2 * 2 + c / 8 % 2, r % 8 * 8 + c % 8, h1, by omega, by omega, by unfold plc; rw [if_pos (by omega)], ?_⟩
    rw [← pos_page]
    have e1 : plc (r / 8 % 2 * 2 + c / 8 % 2) = 0 := by unfold plc; rw [if_pos (by omega)]
    have e2 : 8 * lin k (r / 16 * acr k + c / 16) (r / 8 % 2 * 2 + c / 8 % 2) + (r % 8 * 8 + c % 8) / 8 = r := by
      unfold lin
      rw [if_pos (by omega), h3]
      omega
    have e3 : 8 * col k (r / 16 * acr k + c / 16) (r / 8 % 2 * 2 + c / 8 % 2) + (r % 8 * 8 + c % 8) % 8 = c := by
      unfold col
      rw [if_pos (by omega), h2]
      omega
    rw [e1, e2, e3]
    exact hjj
  · have hW8 : wid k p = 8 * acr k := if_neg h0
    have hH8 : hei k p = 8 * dow k := if_neg h0
    obtain ⟨h1, h2, h3⟩ := at_cell (c / 8) (r / 8) (by omega) (by omega)
    have e1 : plc (p + 3) = p := by unfold plc; rw [if_neg (by omega)]; omega
    refine ⟨r / 8 * acr k + c / 8, p + 3, r % 8 * 8 + c % 8, h1, by omega, by omega, e1, ?_⟩
    rw [← pos_page]
    have e2 : 8 * lin k (r / 8 * acr k + c / 8) (p + 3) + (r % 8 * 8 + c % 8) / 8 = r := by
      unfold lin
      rw [if_neg (by omega), h3]
      omega
    have e3 : 8 * col k (r / 8 * acr k + c / 8) (p + 3) + (r % 8 * 8 + c % 8) % 8 = c := by
      unfold col
      rw [if_neg (by omega), h2]
      omega
    rw [e1, e2, e3]
    exact hjj
end Go.Proofs.Ytnpmllbdpmkliaa
