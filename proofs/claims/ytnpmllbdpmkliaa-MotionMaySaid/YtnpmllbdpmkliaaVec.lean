/- Vectors: a number among colours, and whether a cell may be predicted by one; by the code and by the document. No condition. -/
import Derived.Test.YtnpmllbdpmkliaaPdoc
namespace Go.Proofs.Ytnpmllbdpmkliaa
open Go.RowKit Go.Lib

/-- An amount among colours, and a number. -/
def chrP (a : Int) : Int := 2 * (a / 4) + if a % 4 = 0 then 0 else 1
def chrV (v : Int) : Int := if clip v (-64) 64 < 0 then -chrP (-clip v (-64) 64) else chrP (clip v (-64) 64)
theorem chrP_in {a : Int} (h0 : 0 ≤ a) (h1 : a ≤ 64) : 0 ≤ chrP a ∧ chrP a ≤ 32 := by unfold chrP; split <;> omega
theorem chrV_in (v : Int) : -32 ≤ chrV v ∧ chrV v ≤ 32 := by
  have h1 := clip_lo v (-64) 64
  have h2 := clip_hi v (-64) 64 (by omega)
  unfold chrV
  split
  · have := chrP_in (a := -clip v (-64) 64) (by omega) (by omega); omega
  · have := chrP_in (a := clip v (-64) 64) (by omega) (by omega); omega
theorem chrV_zero : chrV 0 = 0 := by decide +kernel
theorem chrV_of {v : Int} (h1 : -64 ≤ v) (h2 : v ≤ 64) : chrV v = if v < 0 then -chrP (-v) else chrP v := by unfold chrV; rw [clip_of v _ _ h1 h2]
set_option maxHeartbeats 1000000 in
theorem chroma_small (a : Int) (w : World) (h0 : 0 ≤ a) (h1 : a ≤ 64) : Calls Try.prog 6 #[.int .i64 a] w fun e w' => e = .returned (.int .i64 (chrP a)) ∧ w = w' := by
  have c := fun w => clip_code a (-64) 64 w
  rw [clip_of a (-64) 64 (by omega) h1] at c
  have t0 : decide (a < 0) = false := by simp; omega
  have q1 : a.tdiv 4 = a / 4 := Int.tdiv_eq_ediv_of_nonneg h0
  have q2 : a.tmod 4 = a % 4 := Int.tmod_eq_emod_of_nonneg h0
  have u1 : 0 ≤ a / 4 := by omega
  have u2 : a / 4 ≤ 16 := by omega
  have wu : IntKind.i64.wrap (a / 4) = a / 4 := wrapN (by omega)
  have hz := Lib.hid (show chrP a = 2 * (a / 4) + if a % 4 = 0 then 0 else 1 from rfl)
  generalize chrP a = z at *
  generalize a / 4 = u at *
  by_cases hr : a % 4 = 0
  · rw [if_pos hr] at hz
    rw [hr] at q2
    clear hr
    go_enter Try.func6, Try.ntmps6
    go_wp2_with (with_reducible refine (c _).mono ?_; rintro e w1 ⟨rfl, rfl⟩)
    go_ret
    exact ⟨ret_int (by have := hz.out; omega), rfl⟩
  · rw [if_neg hr] at hz
    have t1 : (a % 4 != 0) = true := by simpa [bne] using hr
    generalize a % 4 = r at *
    clear hr
    go_enter Try.func6, Try.ntmps6
    go_wp2_with (with_reducible refine (c _).mono ?_; rintro e w1 ⟨rfl, rfl⟩)
    go_ret
    exact ⟨ret_int (by have := hz.out; omega), rfl⟩
theorem chroma_code (v : Int) (w : World) : Calls Try.prog 6 #[.int .i64 v] w fun e w' => e = .returned (.int .i64 (chrV v)) ∧ w = w' := by
  have c := fun w => clip_code v (-64) 64 w
  have h1 := clip_lo v (-64) 64
  have h2 := clip_hi v (-64) 64 (by omega)
  have hz := Lib.hid (show chrV v = if clip v (-64) 64 < 0 then -chrP (-clip v (-64) 64) else chrP (clip v (-64) 64) from rfl)
  generalize chrV v = z at *
  generalize clip v (-64) 64 = a at *
  by_cases h0 : a < 0
  · rw [if_pos h0] at hz
    have c2 := fun w => chroma_small (-a) w (by omega) (by omega)
    have t0 : decide (a < 0) = true := by simpa using h0
    have q := chrP_in (a := -a) (by omega) (by omega)
    generalize chrP (-a) = y at *
    clear h0
    go_enter Try.func6, Try.ntmps6
    go_wp2_with (first | (with_reducible refine (c _).mono ?_; rintro e w1 ⟨rfl, rfl⟩) | (with_reducible refine (c2 _).mono ?_; rintro e w1 ⟨rfl, rfl⟩))
    go_ret
    exact ⟨ret_int hz.out.symm, rfl⟩
  · rw [if_neg h0] at hz
    have t0 : decide (a < 0) = false := by simpa using h0
    have q1 : a.tdiv 4 = a / 4 := Int.tdiv_eq_ediv_of_nonneg (by omega)
    have q2 : a.tmod 4 = a % 4 := Int.tmod_eq_emod_of_nonneg (by omega)
    have u1 : 0 ≤ a / 4 := by omega
    have u2 : a / 4 ≤ 16 := by omega
    have wu : IntKind.i64.wrap (a / 4) = a / 4 := wrapN (by omega)
    have hy := Lib.hid (show chrP a = 2 * (a / 4) + if a % 4 = 0 then 0 else 1 from rfl)
    rw [hy.out] at hz
    clear hy
    generalize a / 4 = u at *
    by_cases hr : a % 4 = 0
    · rw [if_pos hr] at hz
      rw [hr] at q2
      clear hr h0
      go_enter Try.func6, Try.ntmps6
      go_wp2_with (with_reducible refine (c _).mono ?_; rintro e w1 ⟨rfl, rfl⟩)
      go_ret
      exact ⟨ret_int (by have := hz.out; omega), rfl⟩
    · rw [if_neg hr] at hz
      have t1 : (a % 4 != 0) = true := by simpa [bne] using hr
      generalize a % 4 = r at *
      clear hr h0
      go_enter Try.func6, Try.ntmps6
      go_wp2_with (with_reducible refine (c _).mono ?_; rintro e w1 ⟨rfl, rfl⟩)
      go_ret
      exact ⟨ret_int (by have := hz.out; omega), rfl⟩
set_option maxHeartbeats 2000000 in
theorem chrp_small (a : Int) (w : World) (h0 : 0 ≤ a) (h1 : a ≤ 64) : Calls Try.prog 7 #[.int .i64 a] w fun e w' => e = .returned (.int .i64 (chrP a)) ∧ w = w' := by
  have c := fun w => clip_page a (-64) 64 w
  rw [clip_of a (-64) 64 (by omega) h1] at c
  have t0 : decide (a < 0) = false := by simp; omega
  have q2 : a.tmod 4 = a % 4 := Int.tmod_eq_emod_of_nonneg h0
  have hz := Lib.hid (show chrP a = 2 * (a / 4) + if a % 4 = 0 then 0 else 1 from rfl)
  generalize chrP a = z at *
  go_enter Try.func7, Try.ntmps7
  go_wp2_with (with_reducible refine (c _).mono ?_; rintro e w1 ⟨rfl, rfl⟩)
  go_loopw [3] (fun z wr => ∃ j : Nat, z = .int .i64 (2 * (j : Int)) ∧ 4 * (j : Int) ≤ a ∧ wr = w) (fun z _ => 64 - (RowKit.intOf z).toNat)
  case atStart => exact ⟨0, rfl, by omega, rfl⟩
  case round =>
    obtain ⟨j, rfl, hj, rfl⟩ := hrel
    have e1 : (2 * (j : Int)).tdiv 2 = (j : Int) := by rw [Int.tdiv_eq_ediv_of_nonneg (by omega)]; omega
    have e2 : IntKind.i64.wrap (j : Int) = (j : Int) := wrapN (by omega)
    by_cases hlt : 4 * (j : Int) + 4 ≤ a
    · have t2 : decide (4 * (j : Int) + 4 ≤ a) = true := decide_eq_true hlt
      go_wp2
      go_roundw
      case rel => exact ⟨j + 1, by go_num, by omega, trivial⟩
      case measure => simp [RowKit.intOf]; omega
    · have t2 : decide (4 * (j : Int) + 4 ≤ a) = false := decide_eq_false hlt
      have hq : a / 4 = (j : Int) := by omega
      rw [hq] at hz
      clear hq hlt
      by_cases hr : a % 4 = 0
      · rw [if_pos hr] at hz
        rw [hr] at q2
        clear hr
        go_wp2
        go_ret
        exact ⟨ret_int (by have := hz.out; omega), rfl⟩
      · rw [if_neg hr] at hz
        have t1 : (a % 4 != 0) = true := by simpa [bne] using hr
        generalize a % 4 = r at *
        clear hr
        go_wp2
        go_ret
        exact ⟨ret_int (by have := hz.out; omega), rfl⟩
set_option maxHeartbeats 2000000 in
theorem chrp_page (v : Int) (w : World) : Calls Try.prog 7 #[.int .i64 v] w fun e w' => e = .returned (.int .i64 (chrV v)) ∧ w = w' := by
  have c := fun w => clip_page v (-64) 64 w
  have h1 := clip_lo v (-64) 64
  have h2 := clip_hi v (-64) 64 (by omega)
  have hz := Lib.hid (show chrV v = if clip v (-64) 64 < 0 then -chrP (-clip v (-64) 64) else chrP (clip v (-64) 64) from rfl)
  generalize chrV v = z at *
  generalize clip v (-64) 64 = a at *
  by_cases h0 : a < 0
  · rw [if_pos h0] at hz
    have c2 := fun w => chrp_small (-a) w (by omega) (by omega)
    have t0 : decide (a < 0) = true := by simpa using h0
    have q := chrP_in (a := -a) (by omega) (by omega)
    generalize chrP (-a) = y at *
    clear h0
    go_enter Try.func7, Try.ntmps7
    go_wp2_with (first | (with_reducible refine (c _).mono ?_; rintro e w1 ⟨rfl, rfl⟩) | (with_reducible refine (c2 _).mono ?_; rintro e w1 ⟨rfl, rfl⟩))
    go_ret
    exact ⟨ret_int hz.out.symm, rfl⟩
  · rw [if_neg h0] at hz
    have t0 : decide (a < 0) = false := by simpa using h0
    have q2 : a.tmod 4 = a % 4 := Int.tmod_eq_emod_of_nonneg (by omega)
    have hy := Lib.hid (show chrP a = 2 * (a / 4) + if a % 4 = 0 then 0 else 1 from rfl)
    rw [hy.out] at hz
    clear hy
    go_enter Try.func7, Try.ntmps7
    go_wp2_with (with_reducible refine (c _).mono ?_; rintro e w1 ⟨rfl, rfl⟩)
    go_loopw [3] (fun z wr => ∃ j : Nat, z = .int .i64 (2 * (j : Int)) ∧ 4 * (j : Int) ≤ a ∧ wr = w) (fun z _ => 64 - (RowKit.intOf z).toNat)
    case atStart => exact ⟨0, rfl, by omega, rfl⟩
    case round =>
      obtain ⟨j, rfl, hj, rfl⟩ := hrel
      have e1 : (2 * (j : Int)).tdiv 2 = (j : Int) := by rw [Int.tdiv_eq_ediv_of_nonneg (by omega)]; omega
      have e2 : IntKind.i64.wrap (j : Int) = (j : Int) := wrapN (by omega)
      by_cases hlt : 4 * (j : Int) + 4 ≤ a
      · have t2 : decide (4 * (j : Int) + 4 ≤ a) = true := decide_eq_true hlt
        go_wp2
        go_roundw
        case rel => exact ⟨j + 1, by go_num, by omega, trivial⟩
        case measure => simp [RowKit.intOf]; omega
      · have t2 : decide (4 * (j : Int) + 4 ≤ a) = false := decide_eq_false hlt
        have hq : a / 4 = (j : Int) := by omega
        rw [hq] at hz
        clear hq hlt
        by_cases hr : a % 4 = 0
        · rw [if_pos hr] at hz
          rw [hr] at q2
          clear hr
          go_wp2
          go_ret
          exact ⟨ret_int (by have := hz.out; omega), rfl⟩
        · rw [if_neg hr] at hz
          have t1 : (a % 4 != 0) = true := by simpa [bne] using hr
          generalize a % 4 = r at *
          clear hr
          go_wp2
          go_ret
          exact ⟨ret_int (by have := hz.out; omega), rfl⟩

/-! ### Whether a cell may be predicted -/
def reachV (c m : Nat) (v : Int) : Bool := decide (-32 ≤ v ∧ v ≤ 31) && decide (0 ≤ 32 * (c : Int) + v ∧ 32 * (c : Int) + v + 30 ≤ 32 * (m : Int) - 2)
def mayV (k n a b : Int) : Bool := hasC k n && (reachV (n.toNat % acr k) (acr k) a && reachV (n.toNat / acr k) (dow k) b)
theorem reachV_iff {c m : Nat} {v : Int} : reachV c m v = true ↔ (-32 ≤ v ∧ v ≤ 31) ∧ 0 ≤ 32 * (c : Int) + v ∧ 32 * (c : Int) + v + 30 ≤ 32 * (m : Int) - 2 := by simp [reachV]
theorem mayV_iff {k n a b : Int} : mayV k n a b = true ↔ (0 ≤ n ∧ n.toNat < cells k) ∧ reachV (n.toNat % acr k) (acr k) a = true ∧ reachV (n.toNat / acr k) (dow k) b = true := by
  unfold mayV
  rw [Bool.and_eq_true, Bool.and_eq_true, hasC_iff]
theorem hasm_code (k n : Int) (w : World) : Calls Try.prog 21 #[.int .i64 k, .int .i64 n] w fun e w' => e = .returned (.bool (hasC k n)) ∧ w = w' := by
  have c := fun w => fcells_code k w
  obtain ⟨h1, h2, _⟩ := acr_fmt k
  rw [← h1, ← h2] at c
  have hs : (acr k : Int) * (dow k : Int) = (cells k : Int) := (Int.natCast_mul _ _).symm
  have hw : IntKind.i64.wrap (cells k : Int) = (cells k : Int) := wrapN (by have := cells_most k; omega)
  have hq := Lib.hid (show hasC k n = (decide (0 ≤ n) && decide (n < (cells k : Int))) from rfl)
  generalize hasC k n = y at *
  clear h1 h2
  generalize acr k = a at *
  generalize dow k = b at *
  generalize cells k = m at *
  cases t0 : decide (0 ≤ n)
  · rw [t0] at hq
    go_enter Try.func21, Try.ntmps21
    go_wp2_with (with_reducible refine (c _).mono ?_; rintro e w1 ⟨rfl, rfl⟩)
    go_ret
    exact ⟨ret_bool (by rw [hq.out]; rfl), rfl⟩
  · rw [t0] at hq
    go_enter Try.func21, Try.ntmps21
    go_wp2_with (with_reducible refine (c _).mono ?_; rintro e w1 ⟨rfl, rfl⟩)
    go_ret
    exact ⟨ret_bool (by rw [hq.out]; rfl), rfl⟩
theorem reach_code (c m : Nat) (v : Int) (w : World) (hc : c ≤ 1000) (hm : m ≤ 1000) : Calls Try.prog 23 #[.int .i64 (c : Int), .int .i64 (m : Int), .int .i64 v] w fun e w' => e = .returned (.bool (reachV c m v)) ∧ w = w' := by
  have hq := Lib.hid (show reachV c m v = (decide (-32 ≤ v ∧ v ≤ 31) && decide (0 ≤ 32 * (c : Int) + v ∧ 32 * (c : Int) + v + 30 ≤ 32 * (m : Int) - 2)) from rfl)
  generalize reachV c m v = y at *
  by_cases h1 : v < -32
  · have t1 : decide (v < -32) = true := decide_eq_true h1
    rw [decide_eq_false (show ¬ (-32 ≤ v ∧ v ≤ 31) by omega)] at hq
    go_enter Try.func23, Try.ntmps23
    go_wp2
    go_ret
    exact ⟨ret_bool (by rw [hq.out]; rfl), rfl⟩
  have t1 : decide (v < -32) = false := decide_eq_false h1
  by_cases h2 : 31 < v
  · have t2 : decide (31 < v) = true := decide_eq_true h2
    rw [decide_eq_false (show ¬ (-32 ≤ v ∧ v ≤ 31) by omega)] at hq
    go_enter Try.func23, Try.ntmps23
    go_wp2
    go_ret
    exact ⟨ret_bool (by rw [hq.out]; rfl), rfl⟩
  have t2 : decide (31 < v) = false := decide_eq_false h2
  rw [decide_eq_true (show -32 ≤ v ∧ v ≤ 31 by omega)] at hq
  by_cases h3 : 0 ≤ 32 * (c : Int) + v
  · have t3 : decide (0 ≤ 32 * (c : Int) + v) = true := decide_eq_true h3
    have hr : decide (0 ≤ 32 * (c : Int) + v ∧ 32 * (c : Int) + v + 30 ≤ 32 * (m : Int) - 2) = decide (32 * (c : Int) + v + 30 ≤ 2 * (16 * (m : Int) - 1)) := by
      by_cases h : 32 * (c : Int) + v + 30 ≤ 2 * (16 * (m : Int) - 1)
      · rw [decide_eq_true h, decide_eq_true]; omega
      · rw [decide_eq_false h, decide_eq_false]; omega
    rw [hr] at hq
    clear hr
    go_enter Try.func23, Try.ntmps23
    go_wp2
    go_ret
    exact ⟨ret_bool (by rw [hq.out]; rfl), rfl⟩
  · have t3 : decide (0 ≤ 32 * (c : Int) + v) = false := decide_eq_false h3
    rw [decide_eq_false (show ¬ (0 ≤ 32 * (c : Int) + v ∧ 32 * (c : Int) + v + 30 ≤ 32 * (m : Int) - 2) by omega)] at hq
    go_enter Try.func23, Try.ntmps23
    go_wp2
    go_ret
    exact ⟨ret_bool (by rw [hq.out]; rfl), rfl⟩
/-- The cell's place in numbers. -/
theorem cell_quo {k : Int} {n : Nat} (h : n < cells k) : (n : Int).tmod (acr k : Int) = ((n % acr k : Nat) : Int) ∧ (n : Int).tdiv (acr k : Int) = ((n / acr k : Nat) : Int) ∧ IntKind.i64.wrap ((n / acr k : Nat) : Int) = ((n / acr k : Nat) : Int) ∧ ((acr k : Int) == 0) = false ∧ n % acr k < acr k ∧ n / acr k < dow k ∧ acr k ≤ 88 ∧ dow k ≤ 72 := by
  obtain ⟨h0, h1, h2⟩ := cell_parts h
  obtain ⟨-, -, -, -, h3, h4⟩ := acr_fmt k
  refine ⟨by rw [Int.tmod_eq_emod_of_nonneg (by omega)]; rfl, by rw [Int.tdiv_eq_ediv_of_nonneg (by omega)]; rfl, wrapNat (by omega), by simp; omega, h1, h2, h3, h4⟩
def twoA (a b : Int) : Array Value := #[.int .i64 a, .int .i64 b]
theorem two_at {w : World} {B : Nat} {a b : Int} (h : w.heap[B]? = some (.cells (twoA a b) 22 (0, 0))) : w.cell? ⟨B, 0, none⟩ = some (.int .i64 a) ∧ w.cell? ⟨B, 1, none⟩ = some (.int .i64 b) :=
  ⟨part_cells (cs := [.int .i64 a, .int .i64 b]) h rfl, part_cells (cs := [.int .i64 a, .int .i64 b]) h rfl⟩
set_option maxRecDepth 100000 in
set_option maxHeartbeats 2000000 in
theorem may_code (k n a b : Int) (w : World) : Calls Try.prog 8 #[.int .i64 k, .int .i64 n, .agg (twoA a b)] w fun e w' => e = .returned (.bool (mayV k n a b)) ∧ Below w.heap.size w w' := by
  have c1 := fun w => hasm_code k n w
  have c2 := fun w => fcells_code k w
  obtain ⟨e1, e2, -⟩ := acr_fmt k
  rw [← e1, ← e2] at c2
  clear e1 e2
  have hq := Lib.hid (show mayV k n a b = (hasC k n && (reachV (n.toNat % acr k) (acr k) a && reachV (n.toNat / acr k) (dow k) b)) from rfl)
  generalize mayV k n a b = y at *
  obtain ⟨B, hB⟩ : ∃ B, w.heap.size = B := ⟨_, rfl⟩
  obtain ⟨wA, hwA⟩ : ∃ wA, w.alloc (.cells (twoA a b) 22 (0, 0)) = wA := ⟨_, rfl⟩
  have hA : wA.heap[B]? = some (.cells (twoA a b) 22 (0, 0)) := by rw [← hwA, ← hB]; exact heap_alloc_new w _
  have hz : wA.heap.size = B + 1 := by rw [← hwA, ← hB]; simp
  have HC := Lib.hid (fun (x : World) (hx : Below (B + 1) wA x) => two_at ((hx.block B (by omega)).trans hA))
  have hb : Below w.heap.size w wA := by rw [← hwA]; exact (Below.refl _ w).alloc (Nat.le_refl _) _
  have HE := Lib.hid (fun (x : World) (hx : Below (B + 1) wA x) => (hb.trans (hx.mono (by omega)) : Below w.heap.size w x))
  unfold twoA at *
  have HWA := Lib.hid hwA
  have HB := Lib.hid hB
  clear hA hz hb hwA hB
  cases hc : hasC k n with
  | false =>
    rw [hc] at c1 hq
    clear hc
    go_enter Try.func8, Try.ntmps8
    go_wp2_with (first | (with_reducible refine (c1 _).mono ?_; rintro e w1 ⟨rfl, rfl⟩) | (with_reducible refine (c2 _).mono ?_; rintro e w1 ⟨rfl, rfl⟩))
    go_ret
    exact ⟨ret_bool (by rw [hq.out]; rfl), by rw [HWA.out]; exact HE.out _ (Below.refl _ _)⟩
  | true =>
    rw [hc] at c1 hq
    obtain ⟨q0, q1⟩ := hasC_iff.1 hc
    obtain ⟨q, rfl⟩ : ∃ q : Nat, n = (q : Int) := ⟨n.toNat, by omega⟩
    rw [Int.toNat_natCast] at hq q1
    obtain ⟨r1, r2, r3, z0, m1, m2, m3, m4⟩ := cell_quo q1
    have C3 := Lib.hid (fun x (hx : Below (B + 1) wA x) => (reach_code (q % acr k) (acr k) a x (by omega) (by omega)).mono fun e y h => (⟨h.1, h.2 ▸ hx⟩ : e = .returned (.bool (reachV (q % acr k) (acr k) a)) ∧ Below (B + 1) wA y))
    have C4 := Lib.hid (fun x (hx : Below (B + 1) wA x) => (reach_code (q / acr k) (dow k) b x (by omega) (by omega)).mono fun e y h => (⟨h.1, h.2 ▸ hx⟩ : e = .returned (.bool (reachV (q / acr k) (dow k) b)) ∧ Below (B + 1) wA y))
    clear hc q1 q0
    generalize q % acr k = u at *
    generalize q / acr k = v at *
    generalize acr k = A at *
    generalize dow k = D at *
    cases hx : reachV u A a with
    | false =>
      rw [hx] at C3 hq
      go_enter Try.func8, Try.ntmps8
      go_wp2_with (first | (with_reducible refine (c1 _).mono ?_; rintro e w1 ⟨rfl, rfl⟩) | (with_reducible refine (c2 _).mono ?_; rintro e w1 ⟨rfl, rfl⟩))
      rw [HWA.out, HB.out]
      refine wp_region_calm (S := fun x => Below (B + 1) wA x) 17 (by kernel_rfl) (by kernel_rfl) (Below.refl _ _).drew ?_
      simp only [List.take_succ_cons, List.take_zero, List.drop_succ_cons, List.drop_zero]
      refine calm_value (v := ?vp0) (by kernel_rfl) ?m ?_; (case m => (intro x _; go_simp; try with_reducible rfl))
      simp only [Act.put, List.setIfInBounds_toArray, List.set_cons_zero, List.set_cons_succ]
      refine calm_value (v := ?vp1) (by kernel_rfl) ?m ?_; (case m => (intro x _; go_simp; try with_reducible rfl))
      simp only [Act.put, List.setIfInBounds_toArray, List.set_cons_zero, List.set_cons_succ]
      refine calm_value (v := ?vp2) (by kernel_rfl) ?m ?_; (case m => (intro x _; go_simp; rw [if_neg (by omega)]))
      simp only [Act.put, List.setIfInBounds_toArray, List.set_cons_zero, List.set_cons_succ]
      refine calm_value (v := ?vp3) (by kernel_rfl) ?m ?_; (case m => (intro x _; go_simp; try with_reducible rfl))
      simp only [Act.put, List.setIfInBounds_toArray, List.set_cons_zero, List.set_cons_succ]
      refine calm_value (v := ?vp4) (by kernel_rfl) ?m ?_; (case m => (intro x _; go_simp; try with_reducible rfl))
      simp only [Act.put, List.setIfInBounds_toArray, List.set_cons_zero, List.set_cons_succ]
      refine calm_cell 3 _ ⟨B, 0, none⟩ (.int .i64 a) (by kernel_rfl) rfl rfl (fun x hx => by have c0 := (HC.out x hx).1; go_simp) ?_
      simp only [Act.put, List.setIfInBounds_toArray, List.set_cons_zero, List.set_cons_succ]
      refine calm_call (by kernel_rfl) C3.out (fun _ => by kernel_rfl) ?_
      simp only [Act.put, List.setIfInBounds_toArray, List.set_cons_zero, List.set_cons_succ]
      refine calm_value (v := ?vp7) (by kernel_rfl) ?m ?_; (case m => (intro x _; go_simp; try with_reducible rfl))
      simp only [Act.put, List.setIfInBounds_toArray, List.set_cons_zero, List.set_cons_succ]
      refine calm_not (by kernel_rfl) ?_
      simp only [Act.put, List.setIfInBounds_toArray, List.set_cons_zero, List.set_cons_succ]
      refine calm_not (by kernel_rfl) ?_
      simp only [Act.put, List.setIfInBounds_toArray, List.set_cons_zero, List.set_cons_succ]
      refine calm_not (by kernel_rfl) ?_
      simp only [Act.put, List.setIfInBounds_toArray, List.set_cons_zero, List.set_cons_succ]
      refine calm_not (by kernel_rfl) ?_
      simp only [Act.put, List.setIfInBounds_toArray, List.set_cons_zero, List.set_cons_succ]
      refine calm_not (by kernel_rfl) ?_
      simp only [Act.put, List.setIfInBounds_toArray, List.set_cons_zero, List.set_cons_succ]
      refine calm_not (by kernel_rfl) ?_
      simp only [Act.put, List.setIfInBounds_toArray, List.set_cons_zero, List.set_cons_succ]
      refine calm_not (by kernel_rfl) ?_
      simp only [Act.put, List.setIfInBounds_toArray, List.set_cons_zero, List.set_cons_succ]
      refine calm_value (v := ?vp15) (by kernel_rfl) ?m ?_; (case m => (intro x _; go_simp; try with_reducible rfl))
      simp only [Act.put, List.setIfInBounds_toArray, List.set_cons_zero, List.set_cons_succ]
      refine calm_value (v := ?vp16) (by kernel_rfl) ?m ?_; (case m => (intro x _; go_simp; try with_reducible rfl))
      simp only [Act.put, List.setIfInBounds_toArray, List.set_cons_zero, List.set_cons_succ]
      refine calm_nil fun x hx => ?_
      go_wp2
      go_ret
      exact ⟨ret_bool (by rw [hq.out]; rfl), HE.out _ hx⟩
    | true =>
      rw [hx] at C3 hq
      go_enter Try.func8, Try.ntmps8
      go_wp2_with (first | (with_reducible refine (c1 _).mono ?_; rintro e w1 ⟨rfl, rfl⟩) | (with_reducible refine (c2 _).mono ?_; rintro e w1 ⟨rfl, rfl⟩))
      rw [HWA.out, HB.out]
      refine wp_region_calm (S := fun x => Below (B + 1) wA x) 17 (by kernel_rfl) (by kernel_rfl) (Below.refl _ _).drew ?_
      simp only [List.take_succ_cons, List.take_zero, List.drop_succ_cons, List.drop_zero]
      refine calm_value (v := ?vq0) (by kernel_rfl) ?m ?_; (case m => (intro x _; go_simp; try with_reducible rfl))
      simp only [Act.put, List.setIfInBounds_toArray, List.set_cons_zero, List.set_cons_succ]
      refine calm_value (v := ?vq1) (by kernel_rfl) ?m ?_; (case m => (intro x _; go_simp; try with_reducible rfl))
      simp only [Act.put, List.setIfInBounds_toArray, List.set_cons_zero, List.set_cons_succ]
      refine calm_value (v := ?vq2) (by kernel_rfl) ?m ?_; (case m => (intro x _; go_simp; rw [if_neg (by omega)]))
      simp only [Act.put, List.setIfInBounds_toArray, List.set_cons_zero, List.set_cons_succ]
      refine calm_value (v := ?vq3) (by kernel_rfl) ?m ?_; (case m => (intro x _; go_simp; try with_reducible rfl))
      simp only [Act.put, List.setIfInBounds_toArray, List.set_cons_zero, List.set_cons_succ]
      refine calm_value (v := ?vq4) (by kernel_rfl) ?m ?_; (case m => (intro x _; go_simp; try with_reducible rfl))
      simp only [Act.put, List.setIfInBounds_toArray, List.set_cons_zero, List.set_cons_succ]
      refine calm_cell 3 _ ⟨B, 0, none⟩ (.int .i64 a) (by kernel_rfl) rfl rfl (fun x hx => by have c0 := (HC.out x hx).1; go_simp) ?_
      simp only [Act.put, List.setIfInBounds_toArray, List.set_cons_zero, List.set_cons_succ]
      refine calm_call (by kernel_rfl) C3.out (fun _ => by kernel_rfl) ?_
      simp only [Act.put, List.setIfInBounds_toArray, List.set_cons_zero, List.set_cons_succ]
      refine calm_value (v := ?vq7) (by kernel_rfl) ?m ?_; (case m => (intro x _; go_simp; try with_reducible rfl))
      simp only [Act.put, List.setIfInBounds_toArray, List.set_cons_zero, List.set_cons_succ]
      refine calm_value (v := ?vq8) (by kernel_rfl) ?m ?_; (case m => (intro x _; go_simp; try with_reducible rfl))
      simp only [Act.put, List.setIfInBounds_toArray, List.set_cons_zero, List.set_cons_succ]
      refine calm_value (v := ?vq9) (by kernel_rfl) ?m ?_; (case m => (intro x _; go_simp; try with_reducible rfl))
      simp only [Act.put, List.setIfInBounds_toArray, List.set_cons_zero, List.set_cons_succ]
      refine calm_value (v := ?vq10) (by kernel_rfl) ?m ?_; (case m => (intro x _; go_simp; rw [if_neg (by omega)]))
      simp only [Act.put, List.setIfInBounds_toArray, List.set_cons_zero, List.set_cons_succ]
      refine calm_value (v := ?vq11) (by kernel_rfl) ?m ?_; (case m => (intro x _; go_simp; try with_reducible rfl))
      simp only [Act.put, List.setIfInBounds_toArray, List.set_cons_zero, List.set_cons_succ]
      refine calm_value (v := ?vq12) (by kernel_rfl) ?m ?_; (case m => (intro x _; go_simp; try with_reducible rfl))
      simp only [Act.put, List.setIfInBounds_toArray, List.set_cons_zero, List.set_cons_succ]
      refine calm_cell 3 _ ⟨B, 1, none⟩ (.int .i64 b) (by kernel_rfl) rfl rfl (fun x hx => by have c0 := (HC.out x hx).2; go_simp) ?_
      simp only [Act.put, List.setIfInBounds_toArray, List.set_cons_zero, List.set_cons_succ]
      refine calm_call (by kernel_rfl) C4.out (fun _ => by kernel_rfl) ?_
      simp only [Act.put, List.setIfInBounds_toArray, List.set_cons_zero, List.set_cons_succ]
      refine calm_value (v := ?vq15) (by kernel_rfl) ?m ?_; (case m => (intro x _; go_simp; try with_reducible rfl))
      simp only [Act.put, List.setIfInBounds_toArray, List.set_cons_zero, List.set_cons_succ]
      refine calm_value (v := ?vq16) (by kernel_rfl) ?m ?_; (case m => (intro x _; go_simp; try with_reducible rfl))
      simp only [Act.put, List.setIfInBounds_toArray, List.set_cons_zero, List.set_cons_succ]
      refine calm_nil fun x hx => ?_
      go_wp2
      go_ret
      exact ⟨ret_bool (by rw [hq.out]; rfl), HE.out _ hx⟩
theorem two_size : (Try.prog.info? 22).map (·.size) = some 2 := by kernel_rfl
theorem two_sized (a b : Int) : (Try.prog.info? 22).map (·.size) = some (twoA a b).size := two_size
theorem two_one (a b : Int) : (twoA a b).all (·.oneCell') = true := by simp [twoA, Value.oneCell']
end Go.Proofs.Ytnpmllbdpmkliaa
