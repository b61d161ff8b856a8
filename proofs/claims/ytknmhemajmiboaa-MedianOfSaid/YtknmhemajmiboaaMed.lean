/- The vector foretold, in plain words, and by the code. No condition. -/
import Derived.Test.YtknmhemajmiboaaTwo
import Derived.Test.YtknmhemajmiboaaWhole
import Derived.Test.YtknmhemajmiboaaCalm
import Derived.Test.YtknmhemajmiboaaRes
namespace Go.Proofs.Ytknmhemajmiboaa
open Go.RowKit Go.Lib

/-- The vector to the left, the one above, the one to the right of that. -/
def lefV (f : Nat → Int × Int) (n a : Nat) : Int × Int := if 0 < n % a then f (n - 1) else (0, 0)
def upV (n a : Nat) (first : Int) : Bool := decide (0 < n / a) && decide (first < ((n / a : Nat) : Int))
def aboV (f : Nat → Int × Int) (n a : Nat) (first : Int) : Int × Int := if upV n a first then f (n - a) else lefV f n a
def rigV (f : Nat → Int × Int) (n a : Nat) (first : Int) : Int × Int := if upV n a first then (if n % a < a - 1 then f (n - a + 1) else (0, 0)) else lefV f n a
/-- The vector foretold. -/
def medV (f : Nat → Int × Int) (n : Nat) (across first : Int) : Int × Int :=
  if across < 1 then (0, 0)
  else (middle (lefV f n across.toNat).1 (aboV f n across.toNat first).1 (rigV f n across.toNat first).1, middle (lefV f n across.toNat).2 (aboV f n across.toNat first).2 (rigV f n across.toNat first).2)
def sixA (x y z : Int × Int) : Array Value := #[.int .i64 x.1, .int .i64 x.2, .int .i64 y.1, .int .i64 y.2, .int .i64 z.1, .int .i64 z.2]
/-- Numbers of the walk. -/
theorem med_nums {n A : Nat} (h : 1 ≤ A) : (n : Int).tmod (A : Int) = ((n % A : Nat) : Int) ∧ (n : Int).tdiv (A : Int) = ((n / A : Nat) : Int) ∧ n % A < A ∧ (0 < n % A → 1 ≤ n) ∧ (0 < n / A → A ≤ n) ∧ n / A ≤ n := by
  refine ⟨by rw [Int.tmod_eq_emod_of_nonneg (by omega)]; rfl, by rw [Int.tdiv_eq_ediv_of_nonneg (by omega)]; rfl, Nat.mod_lt _ h, fun h1 => ?_, fun h1 => ?_, Nat.div_le_self _ _⟩
  · rcases Nat.eq_zero_or_pos n with rfl | h2
    · simp at h1
    · exact h2
  · rcases Nat.lt_or_ge n A with h2 | h2
    · rw [Nat.div_eq_of_lt h2] at h1; omega
    · exact h2
def sixO : Obj := .cells #[.int .i64 0, .int .i64 0, .int .i64 0, .int .i64 0, .int .i64 0, .int .i64 0] 28 (0, 0)
def zerO : Obj := .cells #[.int .i64 0, .int .i64 0] 24 (0, 0)
theorem tower_below (w : World) (o1 o2 o3 o4 : Obj) : Below w.heap.size w ((((w.alloc o1).alloc o2).alloc o3).alloc o4) :=
  ((((Below.refl _ w).alloc (Nat.le_refl _) _).alloc (by simp) _).alloc (by simp; omega) _).alloc (by simp; omega) _
theorem tower_first (w : World) (o1 o2 o3 o4 : Obj) : ((((w.alloc o1).alloc o2).alloc o3).alloc o4).drew.heap[w.heap.size]? = some o1 :=
  heap_keep (heap_keep (heap_keep (heap_alloc_new w o1)))
set_option maxHeartbeats 1000000 in
theorem around_code (f : Nat → Int × Int) (p : Option Addr) (n cap A : Nat) (first : Int) (w : World) (ha : VecsAt w p n f) (hn : n ≤ maxLen) (h1 : 1 ≤ A) (hA : A ≤ 9223372036854775807) :
    Calls Try.prog 8 #[.slice p n cap, .int .i64 (A : Int), .int .i64 first] w fun e w' => e = .returned (.agg (sixA (lefV f n A) (aboV f n A first) (rigV f n A first))) ∧ Below w.heap.size w w' := by
  unfold maxLen at hn
  obtain ⟨m1, m2, m3, m4, m5, m6⟩ := med_nums (n := n) h1
  have z0 : ((A : Int) == 0) = false := by simp; omega
  have e1 : (n : Int) % (A : Int) = ((n % A : Nat) : Int) := rfl
  have e2 : (n : Int) / (A : Int) = ((n / A : Nat) : Int) := rfl
  have wd : IntKind.i64.wrap ((n / A : Nat) : Int) = ((n / A : Nat) : Int) := wrapNat (by omega)
  have HL := Lib.hid (show lefV f n A = if 0 < n % A then f (n - 1) else (0, 0) from rfl)
  have HU := Lib.hid (show aboV f n A first = if upV n A first then f (n - A) else lefV f n A from rfl)
  have HR := Lib.hid (show rigV f n A first = if upV n A first then (if n % A < A - 1 then f (n - A + 1) else (0, 0)) else lefV f n A from rfl)
  have hup : upV n A first = (decide (0 < n / A) && decide (first < ((n / A : Nat) : Int))) := rfl
  obtain ⟨mx, hmx⟩ : ∃ mx, (if first < 0 then 0 else first) = mx := ⟨_, rfl⟩
  have hmx2 : 0 ≤ mx ∧ first ≤ mx ∧ (mx = 0 ∨ mx = first) := by rw [← hmx]; split <;> omega
  have hr0 := vecs_hold ha
  clear ha
  generalize lefV f n A = L at *
  generalize aboV f n A first = U at *
  generalize rigV f n A first = R at *
  generalize upV n A first = up at *
  generalize n % A = c at *
  generalize n / A = q at *
  have KT := Lib.hid (fun o1 o2 o3 o4 => tower_below w o1 o2 o3 o4)
  clear m1 m2
  have HW := Lib.hid wd
  by_cases hc : 0 < c
  · have t0 : decide (0 < c) = true := decide_eq_true (by omega)
    have m7 := m4 hc
    obtain ⟨k, hk⟩ : ∃ k, n - 1 = k := ⟨_, rfl⟩
    have hkn : k < n := by omega
    have nk : (n : Int) - 1 = (k : Int) := by omega
    rw [if_pos hc, hk] at HL
    obtain ⟨b, o, rfl, hr⟩ := hr0 (by omega)
    obtain ⟨c0, c1⟩ := hr _ (KT.out sixO zerO zerO zerO).drew k hkn
    unfold sixO zerO at c0 c1
    clear m4
    by_cases hu : up = true
    rotate_left
    · rw [if_neg hu] at HU HR
      have t1 : decide ((q : Int) ≤ mx) = true := decide_eq_true (by
        rcases Nat.eq_zero_or_pos q with h | h
        · omega
        · have hf : ¬ first < (q : Int) := fun h2 => hu (by rw [hup, decide_eq_true h, decide_eq_true h2]; rfl)
          omega)
      clear m3 m6 hup
      clear hc hr hr0 hu
      go_enter Try.func8, Try.ntmps8
      go_wp2
      go_region
      go_wp2
      refine bodyPost_ret (results_cell_row rfl _ _ w.heap.size 28 _ (0, 0) _ rfl (tower_first w _ _ _ _) Try.underlying28 rfl (by kernel_rfl)) rfl ?_
      exact ⟨by rw [HU.out, HR.out, HL.out]; rfl, (KT.out _ _ _ _).drew⟩
    · rw [if_pos hu] at HU HR
      rw [hup, Bool.and_eq_true, decide_eq_true_iff, decide_eq_true_iff] at hu
      obtain ⟨u1, u2⟩ := hu
      have m8 := m5 u1
      have t1 : decide ((q : Int) ≤ mx) = false := decide_eq_false (by omega)
      obtain ⟨j, hj⟩ : ∃ j, n - A = j := ⟨_, rfl⟩
      have hjn : j < n := by omega
      have nj : (n : Int) - (A : Int) = (j : Int) := by omega
      rw [hj] at HU HR
      by_cases hg : c < A - 1
      · rw [if_pos hg] at HR
        have t2 : decide ((c : Int) < (A : Int) - 1) = true := decide_eq_true (by omega)
        have hjn2 : j + 1 < n := by omega
        clear m3 m6 hup
        obtain ⟨c2, c3⟩ := hr _ (KT.out sixO (.cells #[.int .i64 (f k).1, .int .i64 (f k).2] 24 (0, 0)) zerO zerO).drew j hjn
        unfold sixO zerO at c2 c3
        obtain ⟨c4, c5⟩ := hr _ (KT.out sixO (.cells #[.int .i64 (f k).1, .int .i64 (f k).2] 24 (0, 0)) (.cells #[.int .i64 (f j).1, .int .i64 (f j).2] 24 (0, 0)) zerO).drew (j + 1) hjn2
        unfold sixO zerO at c4 c5
        clear hc hr hr0 hg
        go_enter Try.func8, Try.ntmps8
        go_wp2
        go_region
        go_wp2
        refine bodyPost_ret (results_cell_row rfl _ _ w.heap.size 28 _ (0, 0) _ rfl (tower_first w _ _ _ _) Try.underlying28 rfl (by kernel_rfl)) rfl ?_
        exact ⟨by rw [HU.out, HR.out, HL.out]; rfl, (KT.out _ _ _ _).drew⟩
      · rw [if_neg hg] at HR
        have t2 : decide ((c : Int) < (A : Int) - 1) = false := decide_eq_false (by omega)
        clear m3 m6 hup
        obtain ⟨c2, c3⟩ := hr _ (KT.out sixO (.cells #[.int .i64 (f k).1, .int .i64 (f k).2] 24 (0, 0)) zerO zerO).drew j hjn
        unfold sixO zerO at c2 c3
        clear hc hr hr0 hg
        go_enter Try.func8, Try.ntmps8
        go_wp2
        go_region
        go_wp2
        refine bodyPost_ret (results_cell_row rfl _ _ w.heap.size 28 _ (0, 0) _ rfl (tower_first w _ _ _ _) Try.underlying28 rfl (by kernel_rfl)) rfl ?_
        exact ⟨by rw [HU.out, HR.out, HL.out]; rfl, (KT.out _ _ _ _).drew⟩
  · have t0 : decide (0 < c) = false := decide_eq_false (by omega)
    rw [if_neg hc] at HL
    clear m4
    by_cases hu : up = true
    rotate_left
    · rw [if_neg hu] at HU HR
      have t1 : decide ((q : Int) ≤ mx) = true := decide_eq_true (by
        rcases Nat.eq_zero_or_pos q with h | h
        · omega
        · have hf : ¬ first < (q : Int) := fun h2 => hu (by rw [hup, decide_eq_true h, decide_eq_true h2]; rfl)
          omega)
      clear m3 m6 hup
      clear hc  hr0 hu
      go_enter Try.func8, Try.ntmps8
      go_wp2
      go_region
      go_wp2
      refine bodyPost_ret (results_cell_row rfl _ _ w.heap.size 28 _ (0, 0) _ rfl (tower_first w _ _ _ _) Try.underlying28 rfl (by kernel_rfl)) rfl ?_
      exact ⟨by rw [HU.out, HR.out, HL.out]; rfl, (KT.out _ _ _ _).drew⟩
    · rw [if_pos hu] at HU HR
      rw [hup, Bool.and_eq_true, decide_eq_true_iff, decide_eq_true_iff] at hu
      obtain ⟨u1, u2⟩ := hu
      have m8 := m5 u1
      have t1 : decide ((q : Int) ≤ mx) = false := decide_eq_false (by omega)
      obtain ⟨j, hj⟩ : ∃ j, n - A = j := ⟨_, rfl⟩
      have hjn : j < n := by omega
      have nj : (n : Int) - (A : Int) = (j : Int) := by omega
      rw [hj] at HU HR
      obtain ⟨b, o, rfl, hr⟩ := hr0 (by omega)
      by_cases hg : c < A - 1
      · rw [if_pos hg] at HR
        have t2 : decide ((c : Int) < (A : Int) - 1) = true := decide_eq_true (by omega)
        have hjn2 : j + 1 < n := by omega
        clear m3 m6 hup
        obtain ⟨c2, c3⟩ := hr _ (KT.out sixO zerO zerO zerO).drew j hjn
        unfold sixO zerO at c2 c3
        obtain ⟨c4, c5⟩ := hr _ (KT.out sixO zerO (.cells #[.int .i64 (f j).1, .int .i64 (f j).2] 24 (0, 0)) zerO).drew (j + 1) hjn2
        unfold sixO zerO at c4 c5
        clear hc hr hr0 hg
        go_enter Try.func8, Try.ntmps8
        go_wp2
        go_region
        go_wp2
        refine bodyPost_ret (results_cell_row rfl _ _ w.heap.size 28 _ (0, 0) _ rfl (tower_first w _ _ _ _) Try.underlying28 rfl (by kernel_rfl)) rfl ?_
        exact ⟨by rw [HU.out, HR.out, HL.out]; rfl, (KT.out _ _ _ _).drew⟩
      · rw [if_neg hg] at HR
        have t2 : decide ((c : Int) < (A : Int) - 1) = false := decide_eq_false (by omega)
        clear m3 m6 hup
        obtain ⟨c2, c3⟩ := hr _ (KT.out sixO zerO zerO zerO).drew j hjn
        unfold sixO zerO at c2 c3
        clear hc hr hr0 hg
        go_enter Try.func8, Try.ntmps8
        go_wp2
        go_region
        go_wp2
        refine bodyPost_ret (results_cell_row rfl _ _ w.heap.size 28 _ (0, 0) _ rfl (tower_first w _ _ _ _) Try.underlying28 rfl (by kernel_rfl)) rfl ?_
        exact ⟨by rw [HU.out, HR.out, HL.out]; rfl, (KT.out _ _ _ _).drew⟩
end Go.Proofs.Ytknmhemajmiboaa
