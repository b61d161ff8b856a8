/- Plain lists alone: the events of 64 levels, the levels of events, and that they lead back. No condition. -/
import Derived.Test.YtologhgoojkpmaaDoorArr
namespace Go.Proofs.YtologhgoojkpmaaDoor
open Go.RowKit

/-- An event: Last, Run, Level. -/
abbrev Ev := Bool × Int × Int
def encV (x : Ev) : List Value := [.bool x.1, .int .i64 x.2.1, .int .i64 x.2.2]
def cellsV (l : List Ev) : List Value := l.flatMap encV
theorem cellsV_snoc (l : List Ev) (x : Ev) : cellsV (l ++ [x]) = cellsV l ++ encV x := by simp [cellsV]
theorem cellsV_len (l : List Ev) : (cellsV l).length = 3 * l.length := by
  induction l with
  | nil => rfl
  | cons x l ih => rw [cellsV, List.flatMap_cons, List.length_append, show (List.flatMap encV l).length = 3 * l.length from ih]; simp [encV]; omega
theorem cellsV_at (l : List Ev) : ∀ (i : Nat) (h : i < l.length), (cellsV l)[3 * i]? = some (.bool l[i].1) ∧ (cellsV l)[3 * i + 1]? = some (.int .i64 l[i].2.1) ∧ (cellsV l)[3 * i + 2]? = some (.int .i64 l[i].2.2) := by
  induction l with
  | nil => intro i h; cases h
  | cons p l ih =>
    intro i h
    match i with
    | 0 => exact ⟨rfl, rfl, rfl⟩
    | i + 1 =>
      have := ih i (by simpa using h)
      rw [cellsV, List.flatMap_cons, show 3 * (i + 1) = (encV p).length + 3 * i by simp [encV]; omega]
      rw [List.getElem?_append_right (by omega), Nat.add_sub_cancel_left, Nat.add_assoc, Nat.add_assoc, List.getElem?_append_right (by omega), List.getElem?_append_right (by omega), Nat.add_sub_cancel_left, Nat.add_sub_cancel_left]
      exact this
theorem cellsV_set (b : Bool) : ∀ (l : List Ev) (i : Nat) (h : i < l.length), (cellsV l).set (3 * i) (.bool b) = cellsV (l.set i (b, l[i].2))
  | x :: l, 0, _ => rfl
  | x :: l, i + 1, h => by
    have ih := cellsV_set b l i (by simpa using h)
    rw [cellsV, List.flatMap_cons, show 3 * (i + 1) = (encV x).length + 3 * i by simp [encV]; omega, List.set_append_right _ _ (by omega), Nat.add_sub_cancel_left]
    rw [show (List.flatMap encV l).set (3 * i) (.bool b) = _ from ih]
    rfl

/-! ### Events of levels -/
/-- Those of the numbers from a on, below k, none told as last; and how many noughts stand behind them. -/
def evs (f : Nat → Int) (a : Nat) : Nat → List Ev × Nat
  | 0 => ([], 0)
  | k + 1 => if k < a then evs f a k else if f k = 0 then ((evs f a k).1, (evs f a k).2 + 1) else ((evs f a k).1 ++ [(false, ((evs f a k).2 : Int), f k)], 0)
def okl (v : Int) : Bool := decide (-127 ≤ v) && decide (v ≤ 127)
theorem okl_iff {v : Int} : okl v = true ↔ -127 ≤ v ∧ v ≤ 127 := by simp [okl]
/-- May one of the levels not be? -/
def bad (f : Nat → Int) (a : Nat) : Nat → Bool
  | 0 => false
  | k + 1 => bad f a k || (decide (a ≤ k) && !okl (f k))
theorem evs_skip {f : Nat → Int} {a k : Nat} (h : k < a) : evs f a (k + 1) = evs f a k := by rw [evs, if_pos h]
theorem evs_nought {f : Nat → Int} {a k : Nat} (h : a ≤ k) (h0 : f k = 0) : evs f a (k + 1) = ((evs f a k).1, (evs f a k).2 + 1) := by rw [evs, if_neg (by omega), if_pos h0]
theorem evs_one {f : Nat → Int} {a k : Nat} (h : a ≤ k) (h0 : f k ≠ 0) : evs f a (k + 1) = ((evs f a k).1 ++ [(false, ((evs f a k).2 : Int), f k)], 0) := by rw [evs, if_neg (by omega), if_neg h0]
theorem evs_start (f : Nat → Int) (a : Nat) : ∀ k, k ≤ a → evs f a k = ([], 0)
  | 0, _ => rfl
  | k + 1, h => by rw [evs_skip (by omega)]; exact evs_start f a k (by omega)
theorem evs_most (f : Nat → Int) (a : Nat) : ∀ k, (evs f a k).1.length + (evs f a k).2 ≤ k
  | 0 => Nat.le_refl _
  | k + 1 => by
    have ih := evs_most f a k
    by_cases h : k < a
    · rw [evs_skip h]; omega
    · by_cases h0 : f k = 0
      · rw [evs_nought (by omega) h0]; simp only; omega
      · rw [evs_one (by omega) h0]; simp; omega
theorem evs_false (f : Nat → Int) (a : Nat) : ∀ k, ∀ x ∈ (evs f a k).1, x.1 = false
  | 0, x, h => by cases h
  | k + 1, x, h => by
    have ih := evs_false f a k x
    by_cases h1 : k < a
    · rw [evs_skip h1] at h; exact ih h
    · by_cases h0 : f k = 0
      · rw [evs_nought (by omega) h0] at h; exact ih h
      · rw [evs_one (by omega) h0] at h
        rcases List.mem_append.1 h with h | h
        · exact ih h
        · obtain rfl := List.mem_singleton.1 h; rfl
theorem evs_congr {f g : Nat → Int} {a : Nat} : ∀ k, (∀ i, i < k → f i = g i) → evs f a k = evs g a k
  | 0, _ => rfl
  | k + 1, h => by
    have ih := evs_congr (a := a) k fun i hi => h i (by omega)
    rw [evs, evs, ih, h k (by omega)]
theorem evs_noughts {f : Nat → Int} {a k : Nat} (ha : a ≤ k) : ∀ d, (∀ i, k ≤ i → i < k + d → f i = 0) → evs f a (k + d) = ((evs f a k).1, (evs f a k).2 + d)
  | 0, _ => rfl
  | d + 1, h => by
    have ih := evs_noughts ha d fun i h1 h2 => h i h1 (by omega)
    rw [← Nat.add_assoc, evs_nought (by omega) (h (k + d) (by omega) (by omega)), ih, Nat.add_assoc]
theorem bad_more {f : Nat → Int} {a k : Nat} (h : bad f a k = true) : ∀ d, bad f a (k + d) = true
  | 0 => h
  | d + 1 => by rw [← Nat.add_assoc, bad, bad_more h d]; rfl
theorem bad_at {f : Nat → Int} {a k m : Nat} (ha : a ≤ k) (hk : k < m) (h : okl (f k) = false) : bad f a m = true := by
  obtain ⟨d, rfl⟩ : ∃ d, m = (k + 1) + d := ⟨m - (k + 1), by omega⟩
  refine bad_more ?_ d
  rw [bad, h, decide_eq_true ha]
  simp
theorem bad_not {f : Nat → Int} {a : Nat} : ∀ k, (∀ i, a ≤ i → i < k → okl (f i) = true) → bad f a k = false
  | 0, _ => rfl
  | k + 1, h => by
    rw [bad, bad_not k fun i h1 h2 => h i h1 (by omega)]
    by_cases hk : a ≤ k
    · rw [h k hk (by omega)]; simp
    · rw [decide_eq_false hk]; rfl
theorem bad_start (f : Nat → Int) (a : Nat) : ∀ k, k ≤ a → bad f a k = false
  | k, h => bad_not k fun i h1 h2 => by omega
theorem bad_ok {f : Nat → Int} {a k i : Nat} (h : bad f a k = false) (ha : a ≤ i) (hi : i < k) : okl (f i) = true := by
  cases h2 : okl (f i) with
  | true => rfl
  | false => rw [bad_at ha hi h2] at h; cases h

/-- The last one told as such. -/
def mark (l : List Ev) : List Ev := l.mapIdx fun i x => (decide (i + 1 = l.length), x.2)
/-- Those ahead of number i told. -/
def uptoV (i : Nat) (l : List Ev) : List Ev := l.mapIdx fun j x => (decide (j < i) && decide (j + 1 = l.length), x.2)
theorem mark_len (l : List Ev) : (mark l).length = l.length := by simp [mark]
theorem uptoV_len (i : Nat) (l : List Ev) : (uptoV i l).length = l.length := by simp [uptoV]
theorem mark_at (l : List Ev) (i : Nat) (h : i < l.length) : (mark l)[i]'(by rw [mark_len]; exact h) = (decide (i + 1 = l.length), l[i].2) := by simp [mark]
theorem uptoV_at (k : Nat) (l : List Ev) (i : Nat) (h : i < l.length) : (uptoV k l)[i]'(by rw [uptoV_len]; exact h) = (decide (i < k) && decide (i + 1 = l.length), l[i].2) := by simp [uptoV]
theorem uptoV_zero {l : List Ev} (h : ∀ x ∈ l, x.1 = false) : uptoV 0 l = l := by
  refine List.ext_getElem (uptoV_len 0 l) fun i h1 h2 => ?_
  rw [uptoV_at 0 l i h2]
  have := h l[i] (List.getElem_mem h2)
  exact Prod.ext (by simp [this]) rfl
theorem uptoV_all (l : List Ev) : uptoV l.length l = mark l := by
  refine List.ext_getElem (by rw [uptoV_len, mark_len]) fun i h1 h2 => ?_
  have h3 : i < l.length := by rw [uptoV_len] at h1; exact h1
  rw [uptoV_at _ l i h3, mark_at l i h3]
  simp [h3]
theorem uptoV_more (k : Nat) (l : List Ev) (h : k < l.length) : (uptoV k l).set k (decide (k + 1 = l.length), ((uptoV k l)[k]'(by rw [uptoV_len]; exact h)).2) = uptoV (k + 1) l := by
  refine List.ext_getElem (by rw [List.length_set, uptoV_len, uptoV_len]) fun i h1 h2 => ?_
  have h3 : i < l.length := by rw [uptoV_len] at h2; exact h2
  rw [List.getElem_set, uptoV_at (k + 1) l i h3]
  by_cases e : k = i
  · subst e
    rw [if_pos rfl, uptoV_at k l k h]
    simp
  · rw [if_neg e, uptoV_at k l i h3]
    congr 2
    simp
    omega
theorem mark_set {l : List Ev} (hf : ∀ x ∈ l, x.1 = false) {n : Nat} (h : l.length = n + 1) : l.set n (true, (l[n]'(by omega)).2) = mark l := by
  refine List.ext_getElem (by rw [List.length_set, mark_len]) fun i h1 h2 => ?_
  have h3 : i < l.length := by rw [mark_len] at h2; exact h2
  rw [List.getElem_set, mark_at l i h3]
  by_cases e : n = i
  · subst e
    rw [if_pos rfl]
    simp [h]
  · rw [if_neg e]
    have := hf l[i] (List.getElem_mem h3)
    rw [show decide (i + 1 = l.length) = false by simp; omega, ← this]
theorem mark_snd (l : List Ev) : (mark l).map Prod.snd = l.map Prod.snd := by
  refine List.ext_getElem (by simp [mark]) fun i h1 h2 => ?_
  simp [mark]

/-- What the chapter says of Events: the events, and what is wrong. -/
def evG (f : Nat → Int) (a : Int) : List Ev × Int := if a = 0 ∨ a = 1 then (if bad f a.toNat 64 then ([], 7) else (mark (evs f a.toNat 64).1, 0)) else ([], 1)

/-! ### Levels of events -/
/-- The number behind the last event, and the levels. -/
def lvS (a : Nat) (l : List Ev) : Nat × (Nat → Int) := l.foldl (fun s e => (s.1 + e.2.1.toNat + 1, setF s.2 (s.1 + e.2.1.toNat) e.2.2)) (a, fun _ => 0)
theorem lvS_snoc (a : Nat) (l : List Ev) (e : Ev) : lvS a (l ++ [e]) = ((lvS a l).1 + e.2.1.toNat + 1, setF (lvS a l).2 ((lvS a l).1 + e.2.1.toNat) e.2.2) := by
  unfold lvS
  rw [List.foldl_append]
  rfl
theorem lvS_more (a : Nat) (l : List Ev) {j : Nat} (h : j < l.length) : lvS a (l.take (j + 1)) = ((lvS a (l.take j)).1 + l[j].2.1.toNat + 1, setF (lvS a (l.take j)).2 ((lvS a (l.take j)).1 + l[j].2.1.toNat) l[j].2.2) := by
  rw [List.take_succ_eq_append_getElem h, lvS_snoc]
theorem lvS_snd (a : Nat) {l m : List Ev} (h : l.map Prod.snd = m.map Prod.snd) : lvS a l = lvS a m := by
  have key : ∀ (l : List Ev) s, l.foldl (fun (s : Nat × (Nat → Int)) (e : Ev) => (s.1 + e.2.1.toNat + 1, setF s.2 (s.1 + e.2.1.toNat) e.2.2)) s = (l.map Prod.snd).foldl (fun (s : Nat × (Nat → Int)) (e : Int × Int) => (s.1 + e.1.toNat + 1, setF s.2 (s.1 + e.1.toNat) e.2)) s := by
    intro l s
    rw [List.foldl_map]
  unfold lvS
  rw [key, key, h]
theorem lvS_mono (a : Nat) (l : List Ev) : ∀ m : List Ev, (lvS a l).1 ≤ (lvS a (l ++ m)).1 := by
  intro m
  induction m generalizing l with
  | nil => simp
  | cons e m ih =>
    have h := ih (l ++ [e])
    rw [List.append_assoc, List.singleton_append, lvS_snoc] at h
    simp only at h
    omega
/-- Is event j of l right, in its place? -/
def fitV (a : Nat) (l : List Ev) (j : Nat) (e : Ev) : Bool := rightT e.2.1 e.2.2 && (e.1 == decide (j + 1 = l.length)) && decide ((lvS a (l.take j)).1 + e.2.1.toNat < 64)
def badV (a : Nat) (l : List Ev) : Nat → Bool
  | 0 => false
  | j + 1 => badV a l j || (match l[j]? with | some e => !fitV a l j e | none => false)
theorem badV_more {a : Nat} {l : List Ev} {k : Nat} (h : badV a l k = true) : ∀ d, badV a l (k + d) = true
  | 0 => h
  | d + 1 => by rw [← Nat.add_assoc, badV, badV_more h d]; rfl
theorem badV_at {a : Nat} {l : List Ev} {j : Nat} (hj : j < l.length) (h : fitV a l j l[j] = false) : badV a l l.length = true := by
  have h1 : badV a l (j + 1) = true := by
    rw [badV, List.getElem?_eq_getElem hj]
    simp [h]
  have := badV_more h1 (l.length - (j + 1))
  rwa [show j + 1 + (l.length - (j + 1)) = l.length by omega] at this
theorem badV_not {a : Nat} {l : List Ev} : ∀ k, k ≤ l.length → (∀ j, (h : j < l.length) → j < k → fitV a l j l[j] = true) → badV a l k = false
  | 0, _, _ => rfl
  | k + 1, hk, h => by
    rw [badV, badV_not k (by omega) fun j h1 h2 => h j h1 (by omega), List.getElem?_eq_getElem (by omega)]
    simp [h k (by omega) (by omega)]
theorem badV_ok {a : Nat} {l : List Ev} (h : badV a l l.length = false) {j : Nat} (hj : j < l.length) : fitV a l j l[j] = true := by
  cases h2 : fitV a l j l[j] with
  | true => rfl
  | false => rw [badV_at hj h2] at h; cases h
/-- What the chapter says of Levels. -/
def lvG (l : List Ev) (a : Int) : (Nat → Int) × Int := if a = 0 ∨ a = 1 then (if badV a.toNat l l.length then (fun _ => 0, 7) else ((lvS a.toNat l).2, 0)) else (fun _ => 0, 1)

/-! ### There and back -/
theorem lv_evs (f : Nat → Int) (a : Nat) : ∀ k, a ≤ k → (lvS a (evs f a k).1).1 + (evs f a k).2 = k ∧ ∀ i, (lvS a (evs f a k).1).2 i = if a ≤ i ∧ i < k then f i else 0 := by
  intro k hk
  obtain ⟨d, rfl⟩ : ∃ d, k = a + d := ⟨k - a, by omega⟩
  clear hk
  induction d with
  | zero =>
    rw [evs_start f a (a + 0) (by omega)]
    exact ⟨rfl, fun i => by rw [if_neg (by omega)]; rfl⟩
  | succ d ih =>
    obtain ⟨h1, h2⟩ := ih
    rw [← Nat.add_assoc]
    by_cases h0 : f (a + d) = 0
    · rw [evs_nought (by omega) h0]
      refine ⟨by simp only; omega, fun i => ?_⟩
      rw [h2]
      by_cases e : i = a + d
      · subst e
        rw [if_neg (by omega), if_pos (by omega), h0]
      · by_cases h3 : a ≤ i ∧ i < a + d
        · rw [if_pos h3, if_pos (by omega)]
        · rw [if_neg h3, if_neg (by omega)]
    · rw [evs_one (by omega) h0, lvS_snoc]
      simp only [Int.toNat_natCast]
      refine ⟨by omega, fun i => ?_⟩
      rw [h1]
      unfold setF
      by_cases e : i = a + d
      · subst e
        rw [if_pos rfl, if_pos (by omega)]
      · rw [if_neg e, h2]
        by_cases h3 : a ≤ i ∧ i < a + d
        · rw [if_pos h3, if_pos (by omega)]
        · rw [if_neg h3, if_neg (by omega)]
theorem evs_right {f : Nat → Int} {a : Nat} : ∀ k, k ≤ 64 → bad f a k = false → ∀ x ∈ (evs f a k).1, rightT x.2.1 x.2.2 = true
  | 0, _, _, x, h => by cases h
  | k + 1, hk, hb, x, h => by
    have ih := evs_right k (by omega) (by
      rw [bad] at hb
      cases h2 : bad f a k with
      | false => rfl
      | true => rw [h2] at hb; cases hb) x
    by_cases h1 : k < a
    · rw [evs_skip h1] at h; exact ih h
    · by_cases h0 : f k = 0
      · rw [evs_nought (by omega) h0] at h; exact ih h
      · rw [evs_one (by omega) h0] at h
        rcases List.mem_append.1 h with h | h
        · exact ih h
        · obtain rfl := List.mem_singleton.1 h
          have h3 := okl_iff.1 (bad_ok hb (show a ≤ k by omega) (by omega))
          have h4 := evs_most f a k
          exact rightT_iff.2 ⟨by simp only; omega, by simp only; omega, h3.1, h3.2, h0⟩
/-- Levels of Events are the levels. -/
theorem levels_events {f : Nat → Int} {a : Nat} (ha : a ≤ 64) (hb : bad f a 64 = false) :
    badV a (mark (evs f a 64).1) (mark (evs f a 64).1).length = false ∧ ∀ i, (lvS a (mark (evs f a 64).1)).2 i = if a ≤ i ∧ i < 64 then f i else 0 := by
  have hr := evs_right 64 (Nat.le_refl _) hb
  obtain ⟨h1, h2⟩ := lv_evs f a 64 ha
  have h3 := lvS_snd a (mark_snd (evs f a 64).1)
  generalize (evs f a 64).1 = l at hr h1 h2 h3
  refine ⟨badV_not _ (Nat.le_refl _) fun j hj _ => ?_, fun i => by rw [h3]; exact h2 i⟩
  have hj' : j < l.length := by rw [mark_len] at hj; exact hj
  have h4 := lvS_more a (mark l) hj
  have h5 := lvS_mono a ((mark l).take (j + 1)) ((mark l).drop (j + 1))
  rw [List.take_append_drop, h4, h3] at h5
  simp only at h5
  rw [mark_at l j hj'] at h5 ⊢
  unfold fitV
  rw [hr l[j] (List.getElem_mem hj'), mark_len]
  simp only [beq_self_eq_true, Bool.and_true, Bool.true_and, decide_eq_true_eq]
  simp only at h5
  omega
/-- Last taken away. -/
def unmark (l : List Ev) : List Ev := l.map fun x => (false, x.2)
theorem mark_unmark {a : Nat} {l : List Ev} (h : badV a l l.length = false) : mark (unmark l) = l := by
  refine List.ext_getElem (by simp [mark, unmark]) fun i h1 h2 => ?_
  have h3 := badV_ok h h2
  have h4 : l[i].1 = decide (i + 1 = l.length) := by
    unfold fitV at h3
    simp only [Bool.and_eq_true, beq_iff_eq] at h3
    exact h3.1.2
  have hl : (unmark l).length = l.length := by simp [unmark]
  rw [mark_at (unmark l) i (by rw [hl]; exact h2)]
  exact Prod.ext (by show decide (i + 1 = (unmark l).length) = l[i].1; rw [h4, hl]) (by simp [unmark])
theorem evs_levels {a : Nat} {l : List Ev} (h : badV a l l.length = false) : ∀ j, j ≤ l.length →
    a ≤ (lvS a (l.take j)).1 ∧ evs (lvS a (l.take j)).2 a (lvS a (l.take j)).1 = (unmark (l.take j), 0) ∧ (∀ i, (lvS a (l.take j)).1 ≤ i → (lvS a (l.take j)).2 i = 0) ∧ (∀ i, okl ((lvS a (l.take j)).2 i) = true) ∧ ((lvS a (l.take j)).1 ≤ a ∨ (lvS a (l.take j)).1 ≤ 64)
  | 0, _ => by
    rw [List.take_zero]
    exact ⟨Nat.le_refl _, evs_start _ a a (Nat.le_refl _), fun _ _ => rfl, fun _ => rfl, .inl (Nat.le_refl _)⟩
  | j + 1, hj => by
    obtain ⟨h0, h1, h2, h3, h4⟩ := evs_levels h j (by omega)
    have hf := badV_ok h (show j < l.length by omega)
    rw [lvS_more a l (by omega)]
    have ht : l.take (j + 1) = l.take j ++ [l[j]'(by omega)] := List.take_succ_eq_append_getElem (by omega)
    rw [ht]
    generalize l[j]'(by omega) = e at hf
    obtain ⟨s, g⟩ : ∃ s, lvS a (l.take j) = s := ⟨_, rfl⟩
    unfold fitV at hf
    rw [g] at h0 h1 h2 h3 h4 hf ⊢
    simp only [Bool.and_eq_true, decide_eq_true_eq] at hf
    obtain ⟨⟨hr, _⟩, hn⟩ := hf
    obtain ⟨r0, r1, v0, v1, v2⟩ := rightT_iff.1 hr
    obtain ⟨nx, m⟩ := s
    simp only at h0 h1 h2 h3 h4 hn ⊢
    obtain ⟨d, hd⟩ : ∃ d : Nat, e.2.1.toNat = d := ⟨_, rfl⟩
    have hd2 : (d : Int) = e.2.1 := by omega
    rw [hd] at hn ⊢
    have e1 : evs (setF m (nx + d) e.2.2) a nx = (unmark (l.take j), 0) := by
      rw [evs_congr (g := m) nx fun i hi => by unfold setF; rw [if_neg (by omega)]]
      exact h1
    have e2 : evs (setF m (nx + d) e.2.2) a (nx + d) = (unmark (l.take j), d) := by
      rw [evs_noughts h0 d fun i hi hi2 => by unfold setF; rw [if_neg (by omega)]; exact h2 i hi, e1, Nat.zero_add]
    have e3 : setF m (nx + d) e.2.2 (nx + d) = e.2.2 := by unfold setF; rw [if_pos rfl]
    refine ⟨by omega, ?_, fun i hi => ?_, fun i => ?_, .inr (by omega)⟩
    · rw [evs_one (by omega) (by rw [e3]; exact v2), e2, e3]
      simp only [unmark, List.map_append, List.map_cons, List.map_nil, hd2]
    · unfold setF
      rw [if_neg (by omega)]
      exact h2 i (by omega)
    · unfold setF
      split
      · exact okl_iff.2 ⟨v0, v1⟩
      · exact h3 i
/-- Events of Levels are the events. -/
theorem events_levels {a : Nat} {l : List Ev} (ha : a ≤ 64) (h : badV a l l.length = false) : bad (lvS a l).2 a 64 = false ∧ mark (evs (lvS a l).2 a 64).1 = l := by
  obtain ⟨h0, h1, h2, h3, h4⟩ := evs_levels h l.length (Nat.le_refl _)
  rw [List.take_length] at h0 h1 h2 h3 h4
  refine ⟨bad_not _ fun i _ _ => h3 i, ?_⟩
  obtain ⟨d, hd⟩ : ∃ d, 64 = (lvS a l).1 + d := ⟨64 - (lvS a l).1, by omega⟩
  rw [hd, evs_noughts h0 d fun i hi _ => h2 i hi, h1]
  exact mark_unmark h
end Go.Proofs.YtologhgoojkpmaaDoor
