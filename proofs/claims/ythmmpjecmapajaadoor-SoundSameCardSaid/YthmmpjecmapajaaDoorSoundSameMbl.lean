/- Texts that SoundSame's proof stands on, part 38 of 48. No condition of its own. -/
import Derived.Test.YthmmpjecmapajaaDoorSoundSameMk
import Derived.Test.YthmmpjecmapajaaDoorSoundSameMl
import Derived.Test.YthmmpjecmapajaaDoorSoundSameMm
import Derived.Test.YthmmpjecmapajaaDoorSoundSameMq
import Derived.Test.YthmmpjecmapajaaDoorSoundSameMx
import Derived.Laws.IdiomCopy
import Derived.Laws.BytesArg
import Derived.Laws.World
import Derived.WalkMore
import Derived.Laws.Slices
namespace Go.Proofs.YthmmpjecmapajaaDoor
open Go.RowKit Go.Lib Go.ChangeShapes Go.WideShapes Go.ChangeAt
def nilV : Nat → Value := fun _ => .slice none 0 0
section
variable {w : World} {B : Nat} {T : TypeId} {k : Int} {v : Nat → Value}
end
def BtAt (w : World) (v : Value) (n : Nat) (f : Nat → Int) : Prop := ∃ p c, v = .slice p n c ∧ n ≤ c ∧ (n = 0 ∨ ∃ b o, p = some ⟨b, o, none⟩ ∧ ∀ i, i < n → w.cell? ⟨b, o + i, none⟩ = some (.int .u8 (f i)) ∧ 0 ≤ f i ∧ f i ≤ 255)
theorem BtAt.below {w w' : World} {v : Value} {n : Nat} {f : Nat → Int} (h : BtAt w v n f) (hb : Below w.heap.size w w') : BtAt w' v n f := by
 obtain ⟨p, c, rfl, hc, h⟩ := h
 refine ⟨p, c, rfl, hc, ?_⟩
 rcases h with h | ⟨b, o, rfl, h⟩
 ·exact .inl h
 ·refine .inr ⟨b, o, rfl, fun i hi => ?_⟩
  obtain ⟨h1, h2⟩ := h i hi
  exact ⟨(hb.cell (p := ⟨b, o + i, none⟩) (World.block_lt_of_cell? w ⟨b, o + i, none⟩ h1)).trans h1, h2⟩
theorem BtAt.nil (w : World) (f : Nat → Int) : BtAt w (.slice none 0 0) 0 f := ⟨none, 0, rfl, Nat.le_refl _, .inl rfl⟩
theorem BtAt.range {w : World} {v : Value} {n : Nat} {f : Nat → Int} (h : BtAt w v n f) : ∀ i, i < n → 0 ≤ f i ∧ f i ≤ 255 := by
 obtain ⟨p, c, rfl, hc, h⟩ := h
 rcases h with h | ⟨b, o, rfl, h⟩
 ·intro i hi; omega
 ·intro i hi; exact (h i hi).2
def FrAt (w : World) (v : Nat → Value) (n : Nat → Nat) (f : Nat → Nat → Int) : Prop := ∀ p, p < 3 → BtAt w (v p) (n p) (f p)
theorem FrAt.below {w w' : World} {v : Nat → Value} {n : Nat → Nat} {f : Nat → Nat → Int} (h : FrAt w v n f) (hb : Below w.heap.size w w') : FrAt w' v n f := fun p hp => (h p hp).below hb
theorem FrAt.nil (w : World) : FrAt w nilV (fun _ => 0) (fun _ _ => 0) := fun _ _ => BtAt.nil w _
def OwnPl (w : World) (v : Value) (g n : Nat) (f : Nat → Int) : Prop := ∃ c, v = .slice (some ⟨g, 0, none⟩) n c ∧ n ≤ c ∧ ∀ i, i < n → w.cell? ⟨g, i, none⟩ = some (.int .u8 (f i)) ∧ w.frozen? ⟨g, i, none⟩ = false ∧ 0 ≤ f i ∧ f i ≤ 255
section
variable {w w' : World} {v : Value} {g n : Nat} {f : Nat → Int}
theorem OwnPl.at (h : OwnPl w v g n f) : BtAt w v n f := by
 obtain ⟨c, rfl, hc, h⟩ := h
 exact ⟨_, c, rfl, hc, .inr ⟨g, 0, rfl, fun i hi => ⟨by rw [Nat.zero_add]; exact (h i hi).1, (h i hi).2.2⟩⟩⟩
theorem OwnPl.lt (h : OwnPl w v g n f) (hn : 0 < n) : g < w.heap.size := by
 obtain ⟨c, rfl, hc, h⟩ := h
 exact World.block_lt_of_cell? w ⟨g, 0, none⟩ (h 0 hn).1
theorem OwnPl.keep (h : OwnPl w v g n f) (hk : w'.heap[g]? = w.heap[g]?) : OwnPl w' v g n f := by
 obtain ⟨c, rfl, hc, h⟩ := h
 refine ⟨c, rfl, hc, fun i hi => ?_⟩
 obtain ⟨h1, h2, h3⟩ := h i hi
 exact ⟨(World.cell?_of_block (a := ⟨g, i, none⟩) hk).trans h1, (World.frozen?_of_block (a := ⟨g, i, none⟩) hk).trans h2, h3⟩
theorem OwnPl.congr (h : OwnPl w v g n f) {f' : Nat → Int} (hf : ∀ i, i < n → f i = f' i) : OwnPl w v g n f' := by
 obtain ⟨c, rfl, hc, h⟩ := h
 refine ⟨c, rfl, hc, fun i hi => ?_⟩
 rw [← hf i hi]
 exact h i hi
theorem OwnPl.set (h : OwnPl w v g n f) (i : Nat) (x : Int) (hx : 0 ≤ x ∧ x ≤ 255) (hi : i < n) : OwnPl (w.setCell ⟨g, i, none⟩ (.int .u8 x)) v g n (fun j => if j = i then x else f j) := by
 obtain ⟨c, rfl, hc, h⟩ := h
 refine ⟨c, rfl, hc, fun j hj => ?_⟩
 obtain ⟨h1, h2, h3⟩ := h j hj
 rw [World.frozen?_setCell]
 show _ = some (Value.int .u8 (if j = i then x else f j)) ∧ _ ∧ 0 ≤ (if j = i then x else f j) ∧ (if j = i then x else f j) ≤ 255
 by_cases e : j = i
 ·subst e
  rw [if_pos rfl]
  exact ⟨World.cell?_setCell_same _ _ _ h1, h2, hx⟩
 ·rw [if_neg e]
  exact ⟨(World.cell?_setCell_other _ _ _ _ (by intro e2; injection e2 with _ e2; exact e e2.symm)).trans h1, h2, h3⟩
end
structure OwnFr (w : World) (lo : Nat) (v : Nat → Value) (g n : Nat → Nat) (f : Nat → Nat → Int) : Prop where
 pl : ∀ p, p < 3 → OwnPl w (v p) (g p) (n p) (f p)
 from_ : ∀ p, p < 3 → lo ≤ g p
 apart : ∀ p q, p < 3 → q < 3 → p ≠ q → g p ≠ g q
section
variable {w w' : World} {lo : Nat} {v : Nat → Value} {g n : Nat → Nat} {f f' : Nat → Nat → Int}
theorem OwnFr.at (h : OwnFr w lo v g n f) : FrAt w v n f := fun p hp => (h.pl p hp).at
theorem OwnFr.keep (h : OwnFr w lo v g n f) (hk : ∀ p, p < 3 → w'.heap[g p]? = w.heap[g p]?) : OwnFr w' lo v g n f := ⟨fun p hp => (h.pl p hp).keep (hk p hp), h.from_, h.apart⟩
theorem OwnFr.congr (h : OwnFr w lo v g n f) (hf : ∀ p, p < 3 → ∀ i, i < n p → f p i = f' p i) : OwnFr w lo v g n f' := ⟨fun p hp => (h.pl p hp).congr (hf p hp), h.from_, h.apart⟩
theorem OwnFr.mono (h : OwnFr w lo v g n f) {lo' : Nat} (hl : lo' ≤ lo) : OwnFr w lo' v g n f := ⟨h.pl, fun p hp => Nat.le_trans hl (h.from_ p hp), h.apart⟩
theorem OwnFr.below (h : OwnFr w lo v g n f) (hn : ∀ p, p < 3 → 0 < n p) (hb : Below w.heap.size w w') : OwnFr w' lo v g n f := h.keep fun p hp => hb.block _ ((h.pl p hp).lt (hn p hp))
theorem OwnFr.set (h : OwnFr w lo v g n f) {p : Nat} (hp : p < 3) (i : Nat) (x : Int) (hx : 0 ≤ x ∧ x ≤ 255) (hi : i < n p) : OwnFr (w.setCell ⟨g p, i, none⟩ (.int .u8 x)) lo v g n (fun q j => if q = p ∧ j = i then x else f q j) := by
 refine ⟨fun q hq => ?_, h.from_, h.apart⟩
 by_cases e : q = p
 ·subst e
  refine ((h.pl q hq).set i x hx hi).congr fun j _ => ?_
  by_cases e2 : j = i <;> simp [e2]
 ·refine ((h.pl q hq).keep (heap_setCell_other w ⟨g p, i, none⟩ (g q) _ (h.apart q p hq hp e))).congr fun j _ => ?_
  show f q j = (if q = p ∧ j = i then x else f q j)
  rw [if_neg (by intro e2; exact e e2.1)]
end
structure Keeps (g : Nat → Nat) (w w' : World) : Prop where
 os : w'.os = w.os
 tape : w'.tape = w.tape
 output : w'.output = w.output
 size : w.heap.size ≤ w'.heap.size
 block : ∀ k, k < w.heap.size → (∀ p, p < 3 → k ≠ g p) → w'.heap[k]? = w.heap[k]?
theorem Keeps.refl (g : Nat → Nat) (w : World) : Keeps g w w := ⟨rfl, rfl, rfl, Nat.le_refl _, fun _ _ _ => rfl⟩
theorem Keeps.trans {g : Nat → Nat} {a b c : World} (h : Keeps g a b) (k : Keeps g b c) : Keeps g a c :=
 ⟨k.os.trans h.os, k.tape.trans h.tape, k.output.trans h.output, Nat.le_trans h.size k.size, fun i hi hn => (k.block i (Nat.lt_of_lt_of_le hi h.size) hn).trans (h.block i hi hn)⟩
end Go.Proofs.YthmmpjecmapajaaDoor

namespace Go.Proofs.YthmmpjecmapajaaDoor
open Go.RowKit Go.Lib
theorem hasm_code (k n : Int) (w : World) : Calls Tryd.prog 54 #[.int .i64 k, .int .i64 n] w fun e w' => e = .returned (.bool (hasC k n)) ∧ w = w' := by
 have c := fun w => fcells_code k w
 obtain ⟨h1, h2, _⟩ := acr_fmt k
 rw [← h1, ← h2] at c
 have hs : (acr k : Int) * (dow k : Int) = (cells k : Int) := (Int.natCast_mul _ _).symm
 have hw : IntKind.i64.wrap (cells k : Int) = (cells k : Int) := wrapN (by have := cells_most k; omega)
 have hq := Lib.hid (show hasC k n = (decide (0 ≤ n) && decide (n < (cells k : Int))) from rfl)
 generalize hasC k n = y at *
 clear h1 h2
 generalize acr k = a at *
 generalize dow k = b at *
 generalize cells k = m at *
 cases t0 : decide (0 ≤ n)
 ·rw [t0] at hq
  go_enter Tryd.func54, Tryd.ntmps54
  go_wp2_with (with_reducible refine (c _).mono ?_; rintro e w1 ⟨rfl, rfl⟩)
  go_ret
  exact ⟨ret_bool (by rw [hq.out]; rfl), rfl⟩
 ·rw [t0] at hq
  go_enter Tryd.func54, Tryd.ntmps54
  go_wp2_with (with_reducible refine (c _).mono ?_; rintro e w1 ⟨rfl, rfl⟩)
  go_ret
  exact ⟨ret_bool (by rw [hq.out]; rfl), rfl⟩
theorem reach_code (c m : Nat) (v : Int) (w : World) (hc : c ≤ 1000) (hm : m ≤ 1000) : Calls Tryd.prog 55 #[.int .i64 (c : Int), .int .i64 (m : Int), .int .i64 v] w fun e w' => e = .returned (.bool (reachV c m v)) ∧ w = w' := by
 have hq := Lib.hid (show reachV c m v = (decide (-32 ≤ v ∧ v ≤ 31) && decide (0 ≤ 32 * (c : Int) + v ∧ 32 * (c : Int) + v + 30 ≤ 32 * (m : Int) - 2)) from rfl)
 generalize reachV c m v = y at *
 by_cases h1 : v < -32
 ·have t1 : decide (v < -32) = true := decide_eq_true h1
  rw [decide_eq_false (show ¬ (-32 ≤ v ∧ v ≤ 31) by omega)] at hq
  go_enter Tryd.func55, Tryd.ntmps55
  go_wp2
  go_ret
  exact ⟨ret_bool (by rw [hq.out]; rfl), rfl⟩
 have t1 : decide (v < -32) = false := decide_eq_false h1
 by_cases h2 : 31 < v
 ·have t2 : decide (31 < v) = true := decide_eq_true h2
  rw [decide_eq_false (show ¬ (-32 ≤ v ∧ v ≤ 31) by omega)] at hq
  go_enter Tryd.func55, Tryd.ntmps55
  go_wp2
  go_ret
  exact ⟨ret_bool (by rw [hq.out]; rfl), rfl⟩
 have t2 : decide (31 < v) = false := decide_eq_false h2
 rw [decide_eq_true (show -32 ≤ v ∧ v ≤ 31 by omega)] at hq
 by_cases h3 : 0 ≤ 32 * (c : Int) + v
 ·have t3 : decide (0 ≤ 32 * (c : Int) + v) = true := decide_eq_true h3
  have hr : decide (0 ≤ 32 * (c : Int) + v ∧ 32 * (c : Int) + v + 30 ≤ 32 * (m : Int) - 2) = decide (32 * (c : Int) + v + 30 ≤ 2 * (16 * (m : Int) - 1)) := by
   by_cases h : 32 * (c : Int) + v + 30 ≤ 2 * (16 * (m : Int) - 1)
   ·rw [decide_eq_true h, decide_eq_true]; omega
   ·rw [decide_eq_false h, decide_eq_false]; omega
  rw [hr] at hq
  clear hr
  go_enter Tryd.func55, Tryd.ntmps55
  go_wp2
  go_ret
  exact ⟨ret_bool (by rw [hq.out]; rfl), rfl⟩
 ·have t3 : decide (0 ≤ 32 * (c : Int) + v) = false := decide_eq_false h3
  rw [decide_eq_false (show ¬ (0 ≤ 32 * (c : Int) + v ∧ 32 * (c : Int) + v + 30 ≤ 32 * (m : Int) - 2) by omega)] at hq
  go_enter Tryd.func55, Tryd.ntmps55
  go_wp2
  go_ret
  exact ⟨ret_bool (by rw [hq.out]; rfl), rfl⟩
theorem cell_quo {k : Int} {n : Nat} (h : n < cells k) : (n : Int).tmod (acr k : Int) = ((n % acr k : Nat) : Int) ∧ (n : Int).tdiv (acr k : Int) = ((n / acr k : Nat) : Int) ∧ IntKind.i64.wrap ((n / acr k : Nat) : Int) = ((n / acr k : Nat) : Int) ∧ ((acr k : Int) == 0) = false ∧ n % acr k < acr k ∧ n / acr k < dow k ∧ acr k ≤ 88 ∧ dow k ≤ 72 := by
 obtain ⟨h0, h1, h2⟩ := cell_parts h
 obtain ⟨-, -, -, -, h3, h4⟩ := acr_fmt k
 refine ⟨by rw [Int.tmod_eq_emod_of_nonneg (by omega)]; rfl, by rw [Int.tdiv_eq_ediv_of_nonneg (by omega)]; rfl, wrapNat (by omega), by simp; omega, h1, h2, h3, h4⟩
set_option maxRecDepth 100000 in
set_option maxHeartbeats 2000000 in
theorem may_code (k n a b : Int) (w : World) : Calls Tryd.prog 39 #[.int .i64 k, .int .i64 n, .agg (twoA a b)] w fun e w' => e = .returned (.bool (mayV k n a b)) ∧ Below w.heap.size w w' := by
 have c1 := fun w => hasm_code k n w
 have c2 := fun w => fcells_code k w
 obtain ⟨e1, e2, -⟩ := acr_fmt k
 rw [← e1, ← e2] at c2
 clear e1 e2
 have hq := Lib.hid (show mayV k n a b = (hasC k n && (reachV (n.toNat % acr k) (acr k) a && reachV (n.toNat / acr k) (dow k) b)) from rfl)
 generalize mayV k n a b = y at *
 obtain ⟨B, hB⟩ : ∃ B, w.heap.size = B := ⟨_, rfl⟩
 obtain ⟨wA, hwA⟩ : ∃ wA, w.alloc (.cells (twoA a b) 37 (0, 0)) = wA := ⟨_, rfl⟩
 have hA : wA.heap[B]? = some (.cells (twoA a b) 37 (0, 0)) := by rw [← hwA, ← hB]; exact heap_alloc_new w _
 have hz : wA.heap.size = B + 1 := by rw [← hwA, ← hB]; simp
 have HC := Lib.hid (fun (x : World) (hx : Below (B + 1) wA x) => two_at ((hx.block B (by omega)).trans hA))
 have hb : Below w.heap.size w wA := by rw [← hwA]; exact (Below.refl _ w).alloc (Nat.le_refl _) _
 have HE := Lib.hid (fun (x : World) (hx : Below (B + 1) wA x) => (hb.trans (hx.mono (by omega)) : Below w.heap.size w x))
 unfold twoA at *
 have HWA := Lib.hid hwA
 have HB := Lib.hid hB
 clear hA hz hb hwA hB
 cases hc : hasC k n with
 | false =>
  rw [hc] at c1 hq
  clear hc
  go_enter Tryd.func39, Tryd.ntmps39
  go_wp2_with (first | (with_reducible refine (c1 _).mono ?_; rintro e w1 ⟨rfl, rfl⟩) | (with_reducible refine (c2 _).mono ?_; rintro e w1 ⟨rfl, rfl⟩))
  go_ret
  exact ⟨ret_bool (by rw [hq.out]; rfl), by rw [HWA.out]; exact HE.out _ (Below.refl _ _)⟩
 | true =>
  rw [hc] at c1 hq
  obtain ⟨q0, q1⟩ := hasC_iff.1 hc
  obtain ⟨q, rfl⟩ : ∃ q : Nat, n = (q : Int) := ⟨n.toNat, by omega⟩
  rw [Int.toNat_natCast] at hq q1
  obtain ⟨r1, r2, r3, z0, m1, m2, m3, m4⟩ := cell_quo q1
  have C3 := Lib.hid (fun x (hx : Below (B + 1) wA x) => (reach_code (q % acr k) (acr k) a x (by omega) (by omega)).mono fun e y h => (⟨h.1, h.2 ▸ hx⟩ : e = .returned (.bool (reachV (q % acr k) (acr k) a)) ∧ Below (B + 1) wA y))
  have C4 := Lib.hid (fun x (hx : Below (B + 1) wA x) => (reach_code (q / acr k) (dow k) b x (by omega) (by omega)).mono fun e y h => (⟨h.1, h.2 ▸ hx⟩ : e = .returned (.bool (reachV (q / acr k) (dow k) b)) ∧ Below (B + 1) wA y))
  clear hc q1 q0
  generalize q % acr k = u at *
  generalize q / acr k = v at *
  generalize acr k = A at *
  generalize dow k = D at *
  cases hx : reachV u A a with
  | false =>
   rw [hx] at C3 hq
   go_enter Tryd.func39, Tryd.ntmps39
   go_wp2_with (first | (with_reducible refine (c1 _).mono ?_; rintro e w1 ⟨rfl, rfl⟩) | (with_reducible refine (c2 _).mono ?_; rintro e w1 ⟨rfl, rfl⟩))
   rw [HWA.out, HB.out]
   refine wp_region_calm (S := fun x => Below (B + 1) wA x) 17 (by kernel_rfl) (by kernel_rfl) (Below.refl _ _).drew ?_
   simp only [List.take_succ_cons, List.take_zero, List.drop_succ_cons, List.drop_zero]
   refine calm_value (v := ?vp0) (by kernel_rfl) ?m ?_; (case m => (intro x _; go_simp; try with_reducible rfl))
   simp only [Act.put, List.setIfInBounds_toArray, List.set_cons_zero, List.set_cons_succ]
   refine calm_value (v := ?vp1) (by kernel_rfl) ?m ?_; (case m => (intro x _; go_simp; try with_reducible rfl))
   simp only [Act.put, List.setIfInBounds_toArray, List.set_cons_zero, List.set_cons_succ]
   refine calm_value (v := ?vp2) (by kernel_rfl) ?m ?_; (case m => (intro x _; go_simp; rw [if_neg (by omega)]))
   simp only [Act.put, List.setIfInBounds_toArray, List.set_cons_zero, List.set_cons_succ]
   refine calm_value (v := ?vp3) (by kernel_rfl) ?m ?_; (case m => (intro x _; go_simp; try with_reducible rfl))
   simp only [Act.put, List.setIfInBounds_toArray, List.set_cons_zero, List.set_cons_succ]
   refine calm_value (v := ?vp4) (by kernel_rfl) ?m ?_; (case m => (intro x _; go_simp; try with_reducible rfl))
   simp only [Act.put, List.setIfInBounds_toArray, List.set_cons_zero, List.set_cons_succ]
   refine calm_cell 3 _ ⟨B, 0, none⟩ (.int .i64 a) (by kernel_rfl) rfl rfl (fun x hx => by have c0 := (HC.out x hx).1; go_simp) ?_
   simp only [Act.put, List.setIfInBounds_toArray, List.set_cons_zero, List.set_cons_succ]
   refine calm_call (by kernel_rfl) C3.out (fun _ => by kernel_rfl) ?_
   simp only [Act.put, List.setIfInBounds_toArray, List.set_cons_zero, List.set_cons_succ]
   refine calm_value (v := ?vp7) (by kernel_rfl) ?m ?_; (case m => (intro x _; go_simp; try with_reducible rfl))
   simp only [Act.put, List.setIfInBounds_toArray, List.set_cons_zero, List.set_cons_succ]
   refine calm_not (by kernel_rfl) ?_
   simp only [Act.put, List.setIfInBounds_toArray, List.set_cons_zero, List.set_cons_succ]
   refine calm_not (by kernel_rfl) ?_
   simp only [Act.put, List.setIfInBounds_toArray, List.set_cons_zero, List.set_cons_succ]
   refine calm_not (by kernel_rfl) ?_
   simp only [Act.put, List.setIfInBounds_toArray, List.set_cons_zero, List.set_cons_succ]
   refine calm_not (by kernel_rfl) ?_
   simp only [Act.put, List.setIfInBounds_toArray, List.set_cons_zero, List.set_cons_succ]
   refine calm_not (by kernel_rfl) ?_
   simp only [Act.put, List.setIfInBounds_toArray, List.set_cons_zero, List.set_cons_succ]
   refine calm_not (by kernel_rfl) ?_
   simp only [Act.put, List.setIfInBounds_toArray, List.set_cons_zero, List.set_cons_succ]
   refine calm_not (by kernel_rfl) ?_
   simp only [Act.put, List.setIfInBounds_toArray, List.set_cons_zero, List.set_cons_succ]
   refine calm_value (v := ?vp15) (by kernel_rfl) ?m ?_; (case m => (intro x _; go_simp; try with_reducible rfl))
   simp only [Act.put, List.setIfInBounds_toArray, List.set_cons_zero, List.set_cons_succ]
   refine calm_value (v := ?vp16) (by kernel_rfl) ?m ?_; (case m => (intro x _; go_simp; try with_reducible rfl))
   simp only [Act.put, List.setIfInBounds_toArray, List.set_cons_zero, List.set_cons_succ]
   refine calm_nil fun x hx => ?_
   go_wp2
   go_ret
   exact ⟨ret_bool (by rw [hq.out]; rfl), HE.out _ hx⟩
  | true =>
   rw [hx] at C3 hq
   go_enter Tryd.func39, Tryd.ntmps39
   go_wp2_with (first | (with_reducible refine (c1 _).mono ?_; rintro e w1 ⟨rfl, rfl⟩) | (with_reducible refine (c2 _).mono ?_; rintro e w1 ⟨rfl, rfl⟩))
   rw [HWA.out, HB.out]
   refine wp_region_calm (S := fun x => Below (B + 1) wA x) 17 (by kernel_rfl) (by kernel_rfl) (Below.refl _ _).drew ?_
   simp only [List.take_succ_cons, List.take_zero, List.drop_succ_cons, List.drop_zero]
   refine calm_value (v := ?vq0) (by kernel_rfl) ?m ?_; (case m => (intro x _; go_simp; try with_reducible rfl))
   simp only [Act.put, List.setIfInBounds_toArray, List.set_cons_zero, List.set_cons_succ]
   refine calm_value (v := ?vq1) (by kernel_rfl) ?m ?_; (case m => (intro x _; go_simp; try with_reducible rfl))
   simp only [Act.put, List.setIfInBounds_toArray, List.set_cons_zero, List.set_cons_succ]
   refine calm_value (v := ?vq2) (by kernel_rfl) ?m ?_; (case m => (intro x _; go_simp; rw [if_neg (by omega)]))
   simp only [Act.put, List.setIfInBounds_toArray, List.set_cons_zero, List.set_cons_succ]
   refine calm_value (v := ?vq3) (by kernel_rfl) ?m ?_; (case m => (intro x _; go_simp; try with_reducible rfl))
   simp only [Act.put, List.setIfInBounds_toArray, List.set_cons_zero, List.set_cons_succ]
   refine calm_value (v := ?vq4) (by kernel_rfl) ?m ?_; (case m => (intro x _; go_simp; try with_reducible rfl))
   simp only [Act.put, List.setIfInBounds_toArray, List.set_cons_zero, List.set_cons_succ]
   refine calm_cell 3 _ ⟨B, 0, none⟩ (.int .i64 a) (by kernel_rfl) rfl rfl (fun x hx => by have c0 := (HC.out x hx).1; go_simp) ?_
   simp only [Act.put, List.setIfInBounds_toArray, List.set_cons_zero, List.set_cons_succ]
   refine calm_call (by kernel_rfl) C3.out (fun _ => by kernel_rfl) ?_
   simp only [Act.put, List.setIfInBounds_toArray, List.set_cons_zero, List.set_cons_succ]
   refine calm_value (v := ?vq7) (by kernel_rfl) ?m ?_; (case m => (intro x _; go_simp; try with_reducible rfl))
   simp only [Act.put, List.setIfInBounds_toArray, List.set_cons_zero, List.set_cons_succ]
   refine calm_value (v := ?vq8) (by kernel_rfl) ?m ?_; (case m => (intro x _; go_simp; try with_reducible rfl))
   simp only [Act.put, List.setIfInBounds_toArray, List.set_cons_zero, List.set_cons_succ]
   refine calm_value (v := ?vq9) (by kernel_rfl) ?m ?_; (case m => (intro x _; go_simp; try with_reducible rfl))
   simp only [Act.put, List.setIfInBounds_toArray, List.set_cons_zero, List.set_cons_succ]
   refine calm_value (v := ?vq10) (by kernel_rfl) ?m ?_; (case m => (intro x _; go_simp; rw [if_neg (by omega)]))
   simp only [Act.put, List.setIfInBounds_toArray, List.set_cons_zero, List.set_cons_succ]
   refine calm_value (v := ?vq11) (by kernel_rfl) ?m ?_; (case m => (intro x _; go_simp; try with_reducible rfl))
   simp only [Act.put, List.setIfInBounds_toArray, List.set_cons_zero, List.set_cons_succ]
   refine calm_value (v := ?vq12) (by kernel_rfl) ?m ?_; (case m => (intro x _; go_simp; try with_reducible rfl))
   simp only [Act.put, List.setIfInBounds_toArray, List.set_cons_zero, List.set_cons_succ]
   refine calm_cell 3 _ ⟨B, 1, none⟩ (.int .i64 b) (by kernel_rfl) rfl rfl (fun x hx => by have c0 := (HC.out x hx).2; go_simp) ?_
   simp only [Act.put, List.setIfInBounds_toArray, List.set_cons_zero, List.set_cons_succ]
   refine calm_call (by kernel_rfl) C4.out (fun _ => by kernel_rfl) ?_
   simp only [Act.put, List.setIfInBounds_toArray, List.set_cons_zero, List.set_cons_succ]
   refine calm_value (v := ?vq15) (by kernel_rfl) ?m ?_; (case m => (intro x _; go_simp; try with_reducible rfl))
   simp only [Act.put, List.setIfInBounds_toArray, List.set_cons_zero, List.set_cons_succ]
   refine calm_value (v := ?vq16) (by kernel_rfl) ?m ?_; (case m => (intro x _; go_simp; try with_reducible rfl))
   simp only [Act.put, List.setIfInBounds_toArray, List.set_cons_zero, List.set_cons_succ]
   refine calm_nil fun x hx => ?_
   go_wp2
   go_ret
   exact ⟨ret_bool (by rw [hq.out]; rfl), HE.out _ hx⟩
end Go.Proofs.YthmmpjecmapajaaDoor
