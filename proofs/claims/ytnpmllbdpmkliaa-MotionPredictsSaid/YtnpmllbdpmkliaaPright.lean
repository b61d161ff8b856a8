/- Whether a frame is right, by the document. No condition. -/
import Derived.Test.YtnpmllbdpmkliaaPsame
namespace Go.Proofs.Ytnpmllbdpmkliaa
open Go.RowKit Go.Lib

theorem right_not {k : Int} {n : Nat → Nat} {p : Nat} (hp : p < 3) (e : n p ≠ siz k p) : rightF k n = false := by
  cases hq : rightF k n with
  | false => rfl
  | true => exact absurd ((rightF_iff.1 hq).2 p hp) e
theorem right_next {k : Int} {n : Nat → Nat} {i : Nat} (h : ∀ p, p < i → n p = siz k p) (e : n i = siz k i) : ∀ p, p < i + 1 → n p = siz k p := by
  intro p hp
  by_cases h1 : p = i
  · subst h1; exact e
  · exact h p (by omega)
set_option maxRecDepth 100000 in
set_option maxHeartbeats 4000000 in
theorem frright_page (k : Int) (v : Nat → Value) (n : Nat → Nat) (w : World) (hv : ∀ p, p < 3 → ∃ a c, v p = .slice a (n p) c) :
    Calls Try.prog 13 #[.agg (frA k v)] w fun e w' => e = .returned (.bool (rightF k n)) ∧ Below w.heap.size w w' := by
  have c := fun w => fpage_code k w
  have ix0 := fun w => (four_index (fmtW k) (fmtH k) (fmtR k) (fmtL k) w).1
  obtain ⟨-, -, h3, -⟩ := acr_fmt k
  have hZ : (fmtW k == 0) = !(isFmt k) := by
    cases hq : isFmt k with
    | true => have := acr_some hq; simp; omega
    | false => have := acr_none hq; simp; omega
  unfold fmtG at c
  obtain ⟨B, hB⟩ : ∃ B, w.heap.size = B := ⟨_, rfl⟩
  obtain ⟨wA, hwA⟩ : ∃ wA, w.alloc (.cells (frA k v) 29 (0, 0)) = wA := ⟨_, rfl⟩
  have hA0 : wA.heap[B]? = some (frO 29 k v) := by rw [← hwA, ← hB]; exact heap_alloc_new w _
  have hbA : Below B w wA := by rw [← hwA, ← hB]; exact (Below.refl _ w).alloc (Nat.le_refl _) _
  have hzA : wA.heap.size = B + 1 := by rw [← hwA, ← hB]; simp
  have HF := Lib.hid (fun (p : Nat) (hp : p < 3) (x : World) (hx : Below (B + 1) wA x) => (⟨fr_cell0 ((hx.block B (by omega)).trans hA0), fr_cell ((hx.block B (by omega)).trans hA0) hp⟩ : x.cell? ⟨B, 0, none⟩ = some (.int .i64 k) ∧ x.cell? ⟨B, 1 + p, none⟩ = some (v p)))
  have HC := Lib.hid (fun (p : Nat) (hp : p < 3) (x : World) (hx : Below (B + 1) wA x) => ((wide_page k p hp x).mono fun e y h => ⟨h.1, hx.trans (h.2.mono (by have := hx.size; omega))⟩ : Calls Try.prog 29 #[.int .i64 k, .int .i64 (p : Int)] x fun e y => e = .returned (.int .i64 (wid k p : Int)) ∧ Below (B + 1) wA y))
  have HD := Lib.hid (fun (p : Nat) (hp : p < 3) (x : World) (hx : Below (B + 1) wA x) => ((high_page k p hp x).mono fun e y h => ⟨h.1, hx.trans (h.2.mono (by have := hx.size; omega))⟩ : Calls Try.prog 30 #[.int .i64 k, .int .i64 (p : Int)] x fun e y => e = .returned (.int .i64 (hei k p : Int)) ∧ Below (B + 1) wA y))
  have HW := Lib.hid (fun (x : World) (hx : Below (B + 1) wA x) => (by rw [hB]; exact hbA.trans (hx.mono (by omega)) : Below w.heap.size w x))
  have C0 := Lib.hid (fun (x : World) (hx : Below wA.heap.size wA x) => (by rw [hzA] at hx; exact hx : Below (B + 1) wA x))
  unfold frA frL at hwA ⊢
  have HWA := Lib.hid hwA
  have HB := Lib.hid hB
  have HV := Lib.hid hv
  clear hwA hB hA0 hbA hzA h3 hv
  generalize fmtW k = W at *
  generalize fmtH k = H at *
  generalize fmtR k = R at *
  generalize fmtL k = L at *
  cases hq : isFmt k with
  | false =>
    rw [hq] at hZ
    have hz := Lib.hid (show rightF k n = false by unfold rightF; rw [hq]; rfl)
    clear hq
    go_enter Try.func13, Try.ntmps13
    go_wp2_with fail
    rw [HWA.out]
    refine (c _).mono ?_
    rintro e x ⟨rfl, hx⟩
    have hx := C0.out x hx
    go_wp2
    go_ret
    exact ⟨ret_bool hz.out.symm, HW.out _ hx⟩
  | true =>
  rw [hq] at hZ
  have HI := Lib.hid hq
  clear hq
  go_enter Try.func13, Try.ntmps13
  go_wp2_with fail
  rw [HWA.out, HB.out]
  refine (c _).mono ?_
  rintro e x0 ⟨rfl, hx0⟩
  have hx0 := C0.out x0 hx0
  go_wp2
  go_loopw [3] (fun z wr => ∃ i : Nat, i ≤ 3 ∧ z = .int .i64 i ∧ Below (B + 1) wA wr ∧ Hid (∀ p, p < i → n p = siz k p)) (fun z _ => 3 - (intOf z).toNat)
  case atStart => exact ⟨0, by omega, rfl, hx0, fun p hp => by omega⟩
  case round =>
    clear hx0
    obtain ⟨i, hi, rfl, hx, HH⟩ := hrel
    by_cases hlt : i < 3
    · have t0 : decide ((i : Int) < 3) = true := by simp; omega
      have H1 := Lib.hid (HF.out i hlt)
      have C1 := Lib.hid (HC.out i hlt)
      have C2 := Lib.hid (HD.out i hlt)
      obtain ⟨a, cp, hv⟩ := HV.out i hlt
      rw [hv] at H1
      have hs : (wid k i : Int) * (hei k i : Int) = (siz k i : Int) := (Int.natCast_mul _ _).symm
      have W1 : IntKind.i64.wrap (siz k i : Int) = (siz k i : Int) := wrapNat (by have := siz_most k i; omega)
      by_cases e : n i = siz k i
      case pos =>
        have t1 := neq_len e
        have HH2 := Lib.hid (right_next HH.out e)
        clear e hv
        generalize siz k i = S at *
        generalize wid k i = X at *
        generalize hei k i = Y at *
        generalize hnn : n i = N at H1 t1
        clear hnn
        go_wp2
        refine wp_region_calm (S := fun x => Below (B + 1) wA x) 15 (by kernel_rfl) (by kernel_rfl) hx.drew ?_
        simp only [List.take_succ_cons, List.take_zero, List.drop_succ_cons, List.drop_zero]
        refine calm_value (v := ?v0) (by kernel_rfl) ?m ?_; (case m => (intro x _; go_simp; try with_reducible rfl))
        simp only [Act.put, List.setIfInBounds_toArray, List.set_cons_zero, List.set_cons_succ]
        refine calm_value (v := ?v1) (by kernel_rfl) ?m ?_; (case m => (intro x _; go_simp; try with_reducible rfl))
        simp only [Act.put, List.setIfInBounds_toArray, List.set_cons_zero, List.set_cons_succ]
        refine calm_value (v := ?v2) (by kernel_rfl) ?m ?_; (case m => (intro x _; go_simp; rw [if_pos (by omega)]))
        simp only [Act.put, List.setIfInBounds_toArray, List.set_cons_zero, List.set_cons_succ]
        refine calm_cell 26 _ ⟨B, 1 + i, none⟩ (.slice a N cp) (by kernel_rfl) rfl rfl (fun x hx => by have c0 := (H1.out x hx).2; go_simp) ?_
        simp only [Act.put, List.setIfInBounds_toArray, List.set_cons_zero, List.set_cons_succ]
        refine calm_value (v := ?v4) (by kernel_rfl) ?m ?_; (case m => (intro x _; go_simp; try with_reducible rfl))
        simp only [Act.put, List.setIfInBounds_toArray, List.set_cons_zero, List.set_cons_succ]
        refine calm_value (v := ?v5) (by kernel_rfl) ?m ?_; (case m => (intro x _; go_simp; try with_reducible rfl))
        simp only [Act.put, List.setIfInBounds_toArray, List.set_cons_zero, List.set_cons_succ]
        refine calm_cell 3 _ ⟨B, 0, none⟩ (.int .i64 k) (by kernel_rfl) rfl rfl (fun x hx => by have c0 := (H1.out x hx).1; go_simp) ?_
        simp only [Act.put, List.setIfInBounds_toArray, List.set_cons_zero, List.set_cons_succ]
        refine calm_value (v := ?v7) (by kernel_rfl) ?m ?_; (case m => (intro x _; go_simp; try with_reducible rfl))
        simp only [Act.put, List.setIfInBounds_toArray, List.set_cons_zero, List.set_cons_succ]
        refine calm_call (by kernel_rfl) C1.out (fun _ => by kernel_rfl) ?_
        simp only [Act.put, List.setIfInBounds_toArray, List.set_cons_zero, List.set_cons_succ]
        refine calm_value (v := ?v9) (by kernel_rfl) ?m ?_; (case m => (intro x _; go_simp; try with_reducible rfl))
        simp only [Act.put, List.setIfInBounds_toArray, List.set_cons_zero, List.set_cons_succ]
        refine calm_cell 3 _ ⟨B, 0, none⟩ (.int .i64 k) (by kernel_rfl) rfl rfl (fun x hx => by have c0 := (H1.out x hx).1; go_simp) ?_
        simp only [Act.put, List.setIfInBounds_toArray, List.set_cons_zero, List.set_cons_succ]
        refine calm_value (v := ?v11) (by kernel_rfl) ?m ?_; (case m => (intro x _; go_simp; try with_reducible rfl))
        simp only [Act.put, List.setIfInBounds_toArray, List.set_cons_zero, List.set_cons_succ]
        refine calm_call (by kernel_rfl) C2.out (fun _ => by kernel_rfl) ?_
        simp only [Act.put, List.setIfInBounds_toArray, List.set_cons_zero, List.set_cons_succ]
        refine calm_value (v := ?v13) (by kernel_rfl) ?m ?_; (case m => (intro x _; go_simp; try with_reducible rfl))
        simp only [Act.put, List.setIfInBounds_toArray, List.set_cons_zero, List.set_cons_succ]
        refine calm_value (v := ?v14) (by kernel_rfl) ?m ?_; (case m => (intro x _; go_simp; try with_reducible rfl))
        simp only [Act.put, List.setIfInBounds_toArray, List.set_cons_zero, List.set_cons_succ]
        refine calm_nil fun x hx => ?_
        go_wp2
        go_roundw
        case rel => exact ⟨i + 1, by omega, by go_num, hx, HH2.out⟩
        case measure => simp [intOf]; omega
      case neg =>
        have t1 := neq_not e
        have HH3 := Lib.hid (right_not hlt e)
        clear e hv
        generalize siz k i = S at *
        generalize wid k i = X at *
        generalize hei k i = Y at *
        generalize hnn : n i = N at H1 t1
        clear hnn
        go_wp2
        refine wp_region_calm (S := fun x => Below (B + 1) wA x) 15 (by kernel_rfl) (by kernel_rfl) hx.drew ?_
        simp only [List.take_succ_cons, List.take_zero, List.drop_succ_cons, List.drop_zero]
        refine calm_value (v := ?vb0) (by kernel_rfl) ?m ?_; (case m => (intro x _; go_simp; try with_reducible rfl))
        simp only [Act.put, List.setIfInBounds_toArray, List.set_cons_zero, List.set_cons_succ]
        refine calm_value (v := ?vb1) (by kernel_rfl) ?m ?_; (case m => (intro x _; go_simp; try with_reducible rfl))
        simp only [Act.put, List.setIfInBounds_toArray, List.set_cons_zero, List.set_cons_succ]
        refine calm_value (v := ?vb2) (by kernel_rfl) ?m ?_; (case m => (intro x _; go_simp; rw [if_pos (by omega)]))
        simp only [Act.put, List.setIfInBounds_toArray, List.set_cons_zero, List.set_cons_succ]
        refine calm_cell 26 _ ⟨B, 1 + i, none⟩ (.slice a N cp) (by kernel_rfl) rfl rfl (fun x hx => by have c0 := (H1.out x hx).2; go_simp) ?_
        simp only [Act.put, List.setIfInBounds_toArray, List.set_cons_zero, List.set_cons_succ]
        refine calm_value (v := ?vb4) (by kernel_rfl) ?m ?_; (case m => (intro x _; go_simp; try with_reducible rfl))
        simp only [Act.put, List.setIfInBounds_toArray, List.set_cons_zero, List.set_cons_succ]
        refine calm_value (v := ?vb5) (by kernel_rfl) ?m ?_; (case m => (intro x _; go_simp; try with_reducible rfl))
        simp only [Act.put, List.setIfInBounds_toArray, List.set_cons_zero, List.set_cons_succ]
        refine calm_cell 3 _ ⟨B, 0, none⟩ (.int .i64 k) (by kernel_rfl) rfl rfl (fun x hx => by have c0 := (H1.out x hx).1; go_simp) ?_
        simp only [Act.put, List.setIfInBounds_toArray, List.set_cons_zero, List.set_cons_succ]
        refine calm_value (v := ?vb7) (by kernel_rfl) ?m ?_; (case m => (intro x _; go_simp; try with_reducible rfl))
        simp only [Act.put, List.setIfInBounds_toArray, List.set_cons_zero, List.set_cons_succ]
        refine calm_call (by kernel_rfl) C1.out (fun _ => by kernel_rfl) ?_
        simp only [Act.put, List.setIfInBounds_toArray, List.set_cons_zero, List.set_cons_succ]
        refine calm_value (v := ?vb9) (by kernel_rfl) ?m ?_; (case m => (intro x _; go_simp; try with_reducible rfl))
        simp only [Act.put, List.setIfInBounds_toArray, List.set_cons_zero, List.set_cons_succ]
        refine calm_cell 3 _ ⟨B, 0, none⟩ (.int .i64 k) (by kernel_rfl) rfl rfl (fun x hx => by have c0 := (H1.out x hx).1; go_simp) ?_
        simp only [Act.put, List.setIfInBounds_toArray, List.set_cons_zero, List.set_cons_succ]
        refine calm_value (v := ?vb11) (by kernel_rfl) ?m ?_; (case m => (intro x _; go_simp; try with_reducible rfl))
        simp only [Act.put, List.setIfInBounds_toArray, List.set_cons_zero, List.set_cons_succ]
        refine calm_call (by kernel_rfl) C2.out (fun _ => by kernel_rfl) ?_
        simp only [Act.put, List.setIfInBounds_toArray, List.set_cons_zero, List.set_cons_succ]
        refine calm_value (v := ?vb13) (by kernel_rfl) ?m ?_; (case m => (intro x _; go_simp; try with_reducible rfl))
        simp only [Act.put, List.setIfInBounds_toArray, List.set_cons_zero, List.set_cons_succ]
        refine calm_value (v := ?vb14) (by kernel_rfl) ?m ?_; (case m => (intro x _; go_simp; try with_reducible rfl))
        simp only [Act.put, List.setIfInBounds_toArray, List.set_cons_zero, List.set_cons_succ]
        refine calm_nil fun x hx => ?_
        go_wp2
        go_ret
        exact ⟨ret_bool HH3.out.symm, HW.out _ hx⟩
    · obtain rfl : i = 3 := by omega
      have t0 : decide ((3 : Int) < 3) = false := by simp
      have HE := Lib.hid (rightF_iff.2 ⟨HI.out, HH.out⟩)
      go_wp2
      go_ret
      exact ⟨ret_bool HE.out.symm, HW.out _ hx⟩
end Go.Proofs.Ytnpmllbdpmkliaa
