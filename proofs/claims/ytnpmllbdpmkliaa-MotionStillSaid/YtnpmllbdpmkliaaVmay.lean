/- Whether a cell may be predicted, by the document; the chapter's example. No condition. -/
import Derived.Test.YtnpmllbdpmkliaaVec
namespace Go.Proofs.Ytnpmllbdpmkliaa
open Go.RowKit Go.Lib

def insV (s h : Int) : Bool := decide (0 ≤ s) && decide ((s + 30) / 2 + (s + 30) % 2 < h)
theorem reach_ins {c m : Nat} {v : Int} (h1 : -32 ≤ v) (h2 : v ≤ 31) : reachV c m v = insV (32 * (c : Int) + v) (16 * (m : Int)) := by
  unfold reachV insV
  rw [decide_eq_true (show -32 ≤ v ∧ v ≤ 31 from ⟨h1, h2⟩), Bool.true_and, ← Bool.decide_and]
  by_cases h : 0 ≤ 32 * (c : Int) + v ∧ 32 * (c : Int) + v + 30 ≤ 32 * (m : Int) - 2
  · rw [decide_eq_true h, decide_eq_true]; omega
  · rw [decide_eq_false h, decide_eq_false]; omega
theorem ins_page (s h : Int) (w : World) (h1 : -100 ≤ s) (h2 : s ≤ 100000) : Calls Try.prog 25 #[.int .i64 s, .int .i64 h] w fun e w' => e = .returned (.bool (insV s h)) ∧ w = w' := by
  have hq := Lib.hid (show insV s h = (decide (0 ≤ s) && decide ((s + 30) / 2 + (s + 30) % 2 < h)) from rfl)
  generalize insV s h = y at *
  by_cases h0 : 0 ≤ s
  · have t0 : decide (0 ≤ s) = true := decide_eq_true h0
    rw [t0] at hq
    have e1 : (s + 30).tdiv 2 = (s + 30) / 2 := Int.tdiv_eq_ediv_of_nonneg (by omega)
    have e2 : (s + 30).tmod 2 = (s + 30) % 2 := Int.tmod_eq_emod_of_nonneg (by omega)
    have e3 : IntKind.i64.wrap ((s + 30) / 2) = (s + 30) / 2 := wrapN (by omega)
    have m1 : 0 ≤ (s + 30) / 2 ∧ (s + 30) / 2 ≤ 100000 := by omega
    have m2 : 0 ≤ (s + 30) % 2 ∧ (s + 30) % 2 ≤ 1 := by omega
    generalize (s + 30) / 2 = u at *
    generalize (s + 30) % 2 = v at *
    clear h0
    go_enter Try.func25, Try.ntmps25
    go_wp2
    go_ret
    exact ⟨ret_bool (by rw [hq.out]; rfl), rfl⟩
  · have t0 : decide (0 ≤ s) = false := decide_eq_false h0
    rw [t0] at hq
    clear h0
    go_enter Try.func25, Try.ntmps25
    go_wp2
    go_ret
    exact ⟨ret_bool (by rw [hq.out]; rfl), rfl⟩

set_option maxRecDepth 100000 in
set_option maxHeartbeats 4000000 in
theorem may_page (k n a b : Int) (w : World) : Calls Try.prog 9 #[.int .i64 k, .int .i64 n, .agg (twoA a b)] w fun e w' => e = .returned (.bool (mayV k n a b)) ∧ Below w.heap.size w w' := by
  have hq := Lib.hid (show mayV k n a b = (hasC k n && (reachV (n.toNat % acr k) (acr k) a && reachV (n.toNat / acr k) (dow k) b)) from rfl)
  generalize mayV k n a b = y at *
  obtain ⟨B, hB⟩ : ∃ B, w.heap.size = B := ⟨_, rfl⟩
  obtain ⟨wA, hwA⟩ : ∃ wA, w.alloc (.cells (twoA a b) 22 (0, 0)) = wA := ⟨_, rfl⟩
  have hA : wA.heap[B]? = some (.cells (twoA a b) 22 (0, 0)) := by rw [← hwA, ← hB]; exact heap_alloc_new w _
  have hz : wA.heap.size = B + 1 := by rw [← hwA, ← hB]; simp
  have K : ∀ (x y : World), Below (B + 1) wA x → Below x.heap.size x y → Below (B + 1) wA y := fun x y hx hy => hx.trans (hy.mono (by have := hx.size; omega))
  have HC := Lib.hid (fun (x : World) (hx : Below (B + 1) wA x) => two_at ((hx.block B (by omega)).trans hA))
  have hb : Below w.heap.size w wA := by rw [← hwA]; exact (Below.refl _ w).alloc (Nat.le_refl _) _
  have HE := Lib.hid (fun (x : World) (hx : Below (B + 1) wA x) => (hb.trans (hx.mono (by omega)) : Below w.heap.size w x))
  have C1 := Lib.hid (fun (x : World) (hx : Below (B + 1) wA x) => ((many_page k x).mono fun e y h => ⟨h.1, K x y hx h.2⟩ : Calls Try.prog 14 #[.int .i64 k] x fun e y => e = .returned (.int .i64 (cells k : Int)) ∧ Below (B + 1) wA y))
  have C2 := Lib.hid (fun (x : World) (hx : Below (B + 1) wA x) => ((across_page k x).mono fun e y h => ⟨h.1, K x y hx h.2⟩ : Calls Try.prog 24 #[.int .i64 k] x fun e y => e = .returned (.int .i64 (acr k : Int)) ∧ Below (B + 1) wA y))
  have C3 := Lib.hid (fun (x : World) (hx : Below (B + 1) wA x) => ((fpage_code k x).mono fun e y h => ⟨h.1, K x y hx h.2⟩ : Calls Try.prog 26 #[.int .i64 k] x fun e y => e = .returned (.agg (fmtG k)) ∧ Below (B + 1) wA y))
  unfold twoA at *
  have HWA := Lib.hid hwA
  have HB := Lib.hid hB
  have hS0 : Below (B + 1) wA wA := Below.refl _ _
  clear hA hz hb hwA hB K
  cases hc : hasC k n with
  | false =>
    rw [hc] at hq
    by_cases h0 : n < 0
    · have t0 : decide (n < 0) = true := decide_eq_true h0
      clear hc h0
      go_enter Try.func9, Try.ntmps9
      go_wp2
      rw [HWA.out]
      go_ret
      exact ⟨ret_bool (by rw [hq.out]; rfl), HE.out _ hS0⟩
    · have t0 : decide (n < 0) = false := decide_eq_false h0
      have t1 : decide ((cells k : Int) ≤ n) = true := decide_eq_true (by
        have : ¬ (0 ≤ n ∧ n.toNat < cells k) := fun h => by rw [hasC_iff.2 h] at hc; cases hc
        omega)
      generalize cells k = M at *
      clear hc h0
      go_enter Try.func9, Try.ntmps9
      go_wp2_with fail
      rw [HWA.out]
      refine (C1.out _ hS0).mono ?_
      rintro e x ⟨rfl, hx⟩
      go_wp2
      go_ret
      exact ⟨ret_bool (by rw [hq.out]; rfl), HE.out _ hx⟩
  | true =>
    rw [hc] at hq
    obtain ⟨q0, q1⟩ := hasC_iff.1 hc
    obtain ⟨q, rfl⟩ : ∃ q : Nat, n = (q : Int) := ⟨n.toNat, by omega⟩
    rw [Int.toNat_natCast] at hq q1
    obtain ⟨r1, r2, r3, z0, m1, m2, m3, m4⟩ := cell_quo q1
    have t0 : decide ((q : Int) < 0) = false := decide_eq_false (by omega)
    have t1 : decide (cells k ≤ q) = false := decide_eq_false (by omega)
    clear hc q1 q0
    generalize q % acr k = u at *
    generalize q / acr k = v at *
    have C4 := Lib.hid (fun (x : World) (hx : Below (B + 1) wA x) (h1 : -32 ≤ a) (h2 : a ≤ 31) => (ins_page (32 * (u : Int) + a) (fmtW k) x (by omega) (by omega)).mono fun e y h => (⟨h.1, h.2 ▸ hx⟩ : e = .returned (.bool (insV (32 * (u : Int) + a) (fmtW k))) ∧ Below (B + 1) wA y))
    have C5 := Lib.hid (fun (x : World) (hx : Below (B + 1) wA x) (h1 : -32 ≤ b) (h2 : b ≤ 31) => (ins_page (32 * (v : Int) + b) (fmtH k) x (by omega) (by omega)).mono fun e y h => (⟨h.1, h.2 ▸ hx⟩ : e = .returned (.bool (insV (32 * (v : Int) + b) (fmtH k))) ∧ Below (B + 1) wA y))
    have I1 := Lib.hid (fun (h1 : -32 ≤ a) (h2 : a ≤ 31) => (by rw [(acr_fmt k).2.2.1]; exact reach_ins h1 h2 : reachV u (acr k) a = insV (32 * (u : Int) + a) (fmtW k)))
    have I2 := Lib.hid (fun (h1 : -32 ≤ b) (h2 : b ≤ 31) => (by rw [(acr_fmt k).2.2.2.1]; exact reach_ins h1 h2 : reachV v (dow k) b = insV (32 * (v : Int) + b) (fmtH k)))
    have N1 := Lib.hid (fun (h : ¬ (-32 ≤ a ∧ a ≤ 31)) => (by unfold reachV; rw [decide_eq_false h]; rfl : reachV u (acr k) a = false))
    have N2 := Lib.hid (fun (h : ¬ (-32 ≤ b ∧ b ≤ 31)) => (by unfold reachV; rw [decide_eq_false h]; rfl : reachV v (dow k) b = false))
    have ix0 := fun w => (four_index (fmtW k) (fmtH k) (fmtR k) (fmtL k) w).1
    have ix1 := fun w => (four_index (fmtW k) (fmtH k) (fmtR k) (fmtL k) w).2
    unfold fmtG at C3
    generalize reachV u (acr k) a = RA at *
    generalize reachV v (dow k) b = RB at *
    generalize cells k = M at *
    generalize acr k = A at *
    generalize dow k = D at *
    generalize fmtW k = W at *
    generalize fmtH k = H at *
    generalize fmtR k = R at *
    generalize fmtL k = L at *
    go_enter Try.func9, Try.ntmps9
    go_wp2_with fail
    rw [HWA.out, HB.out]
    refine (C1.out _ hS0).mono ?_
    rintro e x ⟨rfl, hx⟩
    go_wp2_with fail
    refine (C2.out _ hx).mono ?_
    rintro e x2 ⟨rfl, hx2⟩
    go_wp2_with fail
    refine (C2.out _ hx2).mono ?_
    rintro e x3 ⟨rfl, hx3⟩
    clear hx hx2
    go_wp2
    go_loopw [9] (fun z wr => ∃ i : Nat, i ≤ 2 ∧ z = .int .i64 i ∧ Below (B + 1) wA wr ∧ (0 < i → -32 ≤ a ∧ a ≤ 31) ∧ (1 < i → -32 ≤ b ∧ b ≤ 31)) (fun z _ => 2 - (RowKit.intOf z).toNat)
    case atStart => exact ⟨0, by omega, rfl, hx3, by omega, by omega⟩
    case round =>
      clear hx3
      obtain ⟨i, hi2, rfl, hx, ha, hb⟩ := hrel
      have hi3 : i = 0 ∨ i = 1 ∨ i = 2 := by omega
      obtain ⟨l0, l1⟩ := HC.out _ hx
      rcases hi3 with rfl | rfl | rfl
      case _ =>
        by_cases h1 : a < -32
        · have t2 : decide (a < -32) = true := decide_eq_true h1
          have e1 := N1.out (by omega)
          clear h1 ha hb
          go_wp2
          go_ret
          exact ⟨ret_bool (by rw [hq.out, e1]; rfl), HE.out _ hx⟩
        have t2 : decide (a < -32) = false := decide_eq_false h1
        by_cases h2 : 31 < a
        · have t3 : decide (31 < a) = true := decide_eq_true h2
          have e1 := N1.out (by omega)
          clear h1 h2 ha hb
          go_wp2
          go_ret
          exact ⟨ret_bool (by rw [hq.out, e1]; rfl), HE.out _ hx⟩
        have t3 : decide (31 < a) = false := decide_eq_false h2
        have hr : -32 ≤ a ∧ a ≤ 31 := by omega
        clear h1 h2 ha hb
        go_wp2
        go_roundw
        case rel => exact ⟨1, by omega, by go_num, hx, fun _ => hr, by omega⟩
        case measure => simp [RowKit.intOf]
      case _ =>
        replace ha := ha (by omega)
        by_cases h1 : b < -32
        · have t2 : decide (b < -32) = true := decide_eq_true h1
          have e1 := N2.out (by omega)
          clear h1 hb
          go_wp2
          go_ret
          exact ⟨ret_bool (by rw [hq.out, e1]; cases RA <;> rfl), HE.out _ hx⟩
        have t2 : decide (b < -32) = false := decide_eq_false h1
        by_cases h2 : 31 < b
        · have t3 : decide (31 < b) = true := decide_eq_true h2
          have e1 := N2.out (by omega)
          clear h1 h2 hb
          go_wp2
          go_ret
          exact ⟨ret_bool (by rw [hq.out, e1]; cases RA <;> rfl), HE.out _ hx⟩
        have t3 : decide (31 < b) = false := decide_eq_false h2
        have hr : -32 ≤ b ∧ b ≤ 31 := by omega
        clear h1 h2 hb
        go_wp2
        go_roundw
        case rel => exact ⟨2, by omega, by go_num, hx, fun _ => ha, fun _ => hr⟩
        case measure => simp [RowKit.intOf]
      case _ =>
        obtain ⟨a1, a2⟩ := ha (by omega)
        obtain ⟨b1, b2⟩ := hb (by omega)
        have e1 := I1.out a1 a2
        have e2 := I2.out b1 b2
        rw [e1, e2] at hq
        replace C4 := Lib.hid (fun (x : World) (hx : Below (B + 1) wA x) => C4.out x hx a1 a2)
        replace C5 := Lib.hid (fun (x : World) (hx : Below (B + 1) wA x) => C5.out x hx b1 b2)
        clear ha hb e1 e2 I1 I2 N1 N2 l0 l1
        have w1 : IntKind.i64.wrap (32 * (u : Int)) = 32 * (u : Int) := wrapN (by omega)
        have w2 : IntKind.i64.wrap (32 * (u : Int) + a) = 32 * (u : Int) + a := wrapN (by omega)
        have w3 : IntKind.i64.wrap (32 * (v : Int)) = 32 * (v : Int) := wrapN (by omega)
        have w4 : IntKind.i64.wrap (32 * (v : Int) + b) = 32 * (v : Int) + b := wrapN (by omega)
        cases hi : insV (32 * (u : Int) + a) W with
        | false =>
          rw [hi] at C4 hq
          go_wp2
          refine wp_region_calm (S := fun x => Below (B + 1) wA x) 21 (by kernel_rfl) (by kernel_rfl) hx.drew ?_
          simp only [List.take_succ_cons, List.take_zero, List.drop_succ_cons, List.drop_zero]
          refine calm_value (v := ?vp0) (by kernel_rfl) ?m ?_; (case m => (intro x _; go_simp; try with_reducible rfl))
          simp only [Act.put, List.setIfInBounds_toArray, List.set_cons_zero, List.set_cons_succ]
          refine calm_value (v := ?vp1) (by kernel_rfl) ?m ?_; (case m => (intro x _; go_simp; try with_reducible rfl))
          simp only [Act.put, List.setIfInBounds_toArray, List.set_cons_zero, List.set_cons_succ]
          refine calm_value (v := ?vp2) (by kernel_rfl) ?m ?_; (case m => (intro x _; go_simp; try with_reducible rfl))
          simp only [Act.put, List.setIfInBounds_toArray, List.set_cons_zero, List.set_cons_succ]
          refine calm_cell 3 _ ⟨B, 0, none⟩ (.int .i64 a) (by kernel_rfl) rfl rfl (fun x hx => by have c0 := (HC.out x hx).1; go_simp) ?_
          simp only [Act.put, List.setIfInBounds_toArray, List.set_cons_zero, List.set_cons_succ]
          refine calm_value (v := ?vp4) (by kernel_rfl) ?m ?_; (case m => (intro x _; go_simp; try with_reducible rfl))
          simp only [Act.put, List.setIfInBounds_toArray, List.set_cons_zero, List.set_cons_succ]
          refine calm_value (v := ?vp5) (by kernel_rfl) ?m ?_; (case m => (intro x _; go_simp; try with_reducible rfl))
          simp only [Act.put, List.setIfInBounds_toArray, List.set_cons_zero, List.set_cons_succ]
          refine calm_call (by kernel_rfl) C3.out (fun _ => by kernel_rfl) ?_
          simp only [Act.put, List.setIfInBounds_toArray, List.set_cons_zero, List.set_cons_succ]
          refine calm_value (v := ?vp7) (by kernel_rfl) ?m ?_; (case m => (intro x _; go_simp; try with_reducible rfl))
          simp only [Act.put, List.setIfInBounds_toArray, List.set_cons_zero, List.set_cons_succ]
          refine calm_call (by kernel_rfl) C4.out (fun _ => by kernel_rfl) ?_
          simp only [Act.put, List.setIfInBounds_toArray, List.set_cons_zero, List.set_cons_succ]
          refine calm_value (v := ?vp9) (by kernel_rfl) ?m ?_; (case m => (intro x _; go_simp; try with_reducible rfl))
          simp only [Act.put, List.setIfInBounds_toArray, List.set_cons_zero, List.set_cons_succ]
          refine calm_not (by kernel_rfl) ?_
          simp only [Act.put, List.setIfInBounds_toArray, List.set_cons_zero, List.set_cons_succ]
          refine calm_not (by kernel_rfl) ?_
          simp only [Act.put, List.setIfInBounds_toArray, List.set_cons_zero, List.set_cons_succ]
          refine calm_not (by kernel_rfl) ?_
          simp only [Act.put, List.setIfInBounds_toArray, List.set_cons_zero, List.set_cons_succ]
          refine calm_not (by kernel_rfl) ?_
          simp only [Act.put, List.setIfInBounds_toArray, List.set_cons_zero, List.set_cons_succ]
          refine calm_not (by kernel_rfl) ?_
          simp only [Act.put, List.setIfInBounds_toArray, List.set_cons_zero, List.set_cons_succ]
          refine calm_not (by kernel_rfl) ?_
          simp only [Act.put, List.setIfInBounds_toArray, List.set_cons_zero, List.set_cons_succ]
          refine calm_not (by kernel_rfl) ?_
          simp only [Act.put, List.setIfInBounds_toArray, List.set_cons_zero, List.set_cons_succ]
          refine calm_not (by kernel_rfl) ?_
          simp only [Act.put, List.setIfInBounds_toArray, List.set_cons_zero, List.set_cons_succ]
          refine calm_not (by kernel_rfl) ?_
          simp only [Act.put, List.setIfInBounds_toArray, List.set_cons_zero, List.set_cons_succ]
          refine calm_value (v := ?vp19) (by kernel_rfl) ?m ?_; (case m => (intro x _; go_simp; try with_reducible rfl))
          simp only [Act.put, List.setIfInBounds_toArray, List.set_cons_zero, List.set_cons_succ]
          refine calm_value (v := ?vp20) (by kernel_rfl) ?m ?_; (case m => (intro x _; go_simp; try with_reducible rfl))
          simp only [Act.put, List.setIfInBounds_toArray, List.set_cons_zero, List.set_cons_succ]
          refine calm_nil fun x hx => ?_
          go_wp2
          go_ret
          exact ⟨ret_bool (by rw [hq.out]; rfl), HE.out _ hx⟩
        | true =>
          rw [hi] at C4 hq
          generalize insV (32 * (v : Int) + b) H = J at *
          go_wp2
          refine wp_region_calm (S := fun x => Below (B + 1) wA x) 21 (by kernel_rfl) (by kernel_rfl) hx.drew ?_
          simp only [List.take_succ_cons, List.take_zero, List.drop_succ_cons, List.drop_zero]
          refine calm_value (v := ?vq0) (by kernel_rfl) ?m ?_; (case m => (intro x _; go_simp; try with_reducible rfl))
          simp only [Act.put, List.setIfInBounds_toArray, List.set_cons_zero, List.set_cons_succ]
          refine calm_value (v := ?vq1) (by kernel_rfl) ?m ?_; (case m => (intro x _; go_simp; try with_reducible rfl))
          simp only [Act.put, List.setIfInBounds_toArray, List.set_cons_zero, List.set_cons_succ]
          refine calm_value (v := ?vq2) (by kernel_rfl) ?m ?_; (case m => (intro x _; go_simp; try with_reducible rfl))
          simp only [Act.put, List.setIfInBounds_toArray, List.set_cons_zero, List.set_cons_succ]
          refine calm_cell 3 _ ⟨B, 0, none⟩ (.int .i64 a) (by kernel_rfl) rfl rfl (fun x hx => by have c0 := (HC.out x hx).1; go_simp) ?_
          simp only [Act.put, List.setIfInBounds_toArray, List.set_cons_zero, List.set_cons_succ]
          refine calm_value (v := ?vq4) (by kernel_rfl) ?m ?_; (case m => (intro x _; go_simp; try with_reducible rfl))
          simp only [Act.put, List.setIfInBounds_toArray, List.set_cons_zero, List.set_cons_succ]
          refine calm_value (v := ?vq5) (by kernel_rfl) ?m ?_; (case m => (intro x _; go_simp; try with_reducible rfl))
          simp only [Act.put, List.setIfInBounds_toArray, List.set_cons_zero, List.set_cons_succ]
          refine calm_call (by kernel_rfl) C3.out (fun _ => by kernel_rfl) ?_
          simp only [Act.put, List.setIfInBounds_toArray, List.set_cons_zero, List.set_cons_succ]
          refine calm_value (v := ?vq7) (by kernel_rfl) ?m ?_; (case m => (intro x _; go_simp; try with_reducible rfl))
          simp only [Act.put, List.setIfInBounds_toArray, List.set_cons_zero, List.set_cons_succ]
          refine calm_call (by kernel_rfl) C4.out (fun _ => by kernel_rfl) ?_
          simp only [Act.put, List.setIfInBounds_toArray, List.set_cons_zero, List.set_cons_succ]
          refine calm_value (v := ?vq9) (by kernel_rfl) ?m ?_; (case m => (intro x _; go_simp; try with_reducible rfl))
          simp only [Act.put, List.setIfInBounds_toArray, List.set_cons_zero, List.set_cons_succ]
          refine calm_value (v := ?vq10) (by kernel_rfl) ?m ?_; (case m => (intro x _; go_simp; try with_reducible rfl))
          simp only [Act.put, List.setIfInBounds_toArray, List.set_cons_zero, List.set_cons_succ]
          refine calm_value (v := ?vq11) (by kernel_rfl) ?m ?_; (case m => (intro x _; go_simp; try with_reducible rfl))
          simp only [Act.put, List.setIfInBounds_toArray, List.set_cons_zero, List.set_cons_succ]
          refine calm_value (v := ?vq12) (by kernel_rfl) ?m ?_; (case m => (intro x _; go_simp; try with_reducible rfl))
          simp only [Act.put, List.setIfInBounds_toArray, List.set_cons_zero, List.set_cons_succ]
          refine calm_cell 3 _ ⟨B, 1, none⟩ (.int .i64 b) (by kernel_rfl) rfl rfl (fun x hx => by have c0 := (HC.out x hx).2; go_simp) ?_
          simp only [Act.put, List.setIfInBounds_toArray, List.set_cons_zero, List.set_cons_succ]
          refine calm_value (v := ?vq14) (by kernel_rfl) ?m ?_; (case m => (intro x _; go_simp; try with_reducible rfl))
          simp only [Act.put, List.setIfInBounds_toArray, List.set_cons_zero, List.set_cons_succ]
          refine calm_value (v := ?vq15) (by kernel_rfl) ?m ?_; (case m => (intro x _; go_simp; try with_reducible rfl))
          simp only [Act.put, List.setIfInBounds_toArray, List.set_cons_zero, List.set_cons_succ]
          refine calm_call (by kernel_rfl) C3.out (fun _ => by kernel_rfl) ?_
          simp only [Act.put, List.setIfInBounds_toArray, List.set_cons_zero, List.set_cons_succ]
          refine calm_value (v := ?vq17) (by kernel_rfl) ?m ?_; (case m => (intro x _; go_simp; try with_reducible rfl))
          simp only [Act.put, List.setIfInBounds_toArray, List.set_cons_zero, List.set_cons_succ]
          refine calm_call (by kernel_rfl) C5.out (fun _ => by kernel_rfl) ?_
          simp only [Act.put, List.setIfInBounds_toArray, List.set_cons_zero, List.set_cons_succ]
          refine calm_value (v := ?vq19) (by kernel_rfl) ?m ?_; (case m => (intro x _; go_simp; try with_reducible rfl))
          simp only [Act.put, List.setIfInBounds_toArray, List.set_cons_zero, List.set_cons_succ]
          refine calm_value (v := ?vq20) (by kernel_rfl) ?m ?_; (case m => (intro x _; go_simp; try with_reducible rfl))
          simp only [Act.put, List.setIfInBounds_toArray, List.set_cons_zero, List.set_cons_succ]
          refine calm_nil fun x hx => ?_
          go_wp2
          go_ret
          exact ⟨ret_bool (by rw [hq.out]; rfl), HE.out _ hx⟩

theorem may_some : mayV 6 0 (-1) 0 = false ∧ mayV 6 0 31 0 = true ∧ chrV 3 = 1 ∧ chrV (-5) = -3 := by decide +kernel
set_option maxHeartbeats 2000000 in
theorem lives18 (w : World) : Calls Try.prog 10 #[] w fun e w' => e = .returned (.bool true) ∧ Below w.heap.size w w' := by
  obtain ⟨e1, e2, e3, e4⟩ := may_some
  have c1 := fun w => chroma_code 3 w
  have c2 := fun w => chroma_code (-5) w
  have c3 := fun w => may_code 6 0 (-1) 0 w
  have c4 := fun w => may_code 6 0 31 0 w
  rw [e1] at c3
  rw [e2] at c4
  rw [e3] at c1
  rw [e4] at c2
  unfold twoA at c3 c4
  clear e1 e2 e3 e4
  go_enter Try.func10, Try.ntmps10
  go_wp2_with (first | (with_reducible refine (c1 _).mono ?_; rintro e w1 ⟨rfl, rfl⟩) | (with_reducible refine (c2 _).mono ?_; rintro e w1 ⟨rfl, rfl⟩))
  refine (c3 _).mono ?_
  rintro e x ⟨rfl, hx⟩
  go_wp2_with fail
  refine (c4 _).mono ?_
  rintro e x2 ⟨rfl, hx2⟩
  go_wp2
  go_ret
  exact ⟨rfl, hx.trans (hx2.mono hx.size)⟩
end Go.Proofs.Ytnpmllbdpmkliaa
