/- Whether two frames are the same: the code's answer and the document's. No condition. -/
import Derived.Test.YtmmgbnjfbapmcaaPdoc
namespace Go.Proofs.Ytmmgbnjfbapmcaa
open Go.RowKit Go.Lib

theorem str_eq {s1 s2 : ByteArray} {b : Bool} (h : s1 = s2 ↔ b = true) : (s1.toList == s2.toList) = b := by
  rw [ByteArray.toList_eq, ByteArray.toList_eq]
  cases b with
  | true =>
    rw [h.2 rfl]
    simp
  | false =>
    refine beq_eq_false_iff_ne.2 fun e => ?_
    have := h.1 (Go.WideShapes.bytes_inj e)
    cases this
theorem sameF_not {k k' : Int} {n n' : Nat → Nat} {f f' : Nat → Nat → Int} {p : Nat} (hp : p < 3) (e : sameB (n p) (f p) (n' p) (f' p) = false) : sameF k n f k' n' f' = false := by
  cases hq : sameF k n f k' n' f' with
  | false => rfl
  | true =>
    have h := (sameF_iff.1 hq).2 p hp
    rw [e] at h
    cases h
theorem sameF_all {k k' : Int} {n n' : Nat → Nat} {f f' : Nat → Nat → Int} (h : ∀ p, p < 3 → sameB (n p) (f p) (n' p) (f' p) = true) : sameF k n f k' n' f' = decide (k = k') := by
  by_cases e : k = k'
  · rw [decide_eq_true e]
    exact sameF_iff.2 ⟨e, h⟩
  · rw [decide_eq_false e]
    cases hq : sameF k n f k' n' f' with
    | false => rfl
    | true => exact absurd (sameF_iff.1 hq).1 e
theorem sameF_next {n n' : Nat → Nat} {f f' : Nat → Nat → Int} {i : Nat} (h : ∀ p, p < i → sameB (n p) (f p) (n' p) (f' p) = true) (e : sameB (n i) (f i) (n' i) (f' i) = true) : ∀ p, p < i + 1 → sameB (n p) (f p) (n' p) (f' p) = true := by
  intro p hp
  by_cases h1 : p = i
  · subst h1; exact e
  · exact h p (by omega)
set_option maxRecDepth 100000 in
theorem equal_code (v1 v2 : Value) (n1 n2 : Nat) (f1 f2 : Nat → Int) (w : World) (h1 : BtAt w v1 n1 f1) (h2 : BtAt w v2 n2 f2) : Calls Try.prog 28 #[v1, v2] w fun e w' => e = .returned (.bool (sameB n1 f1 n2 f2)) ∧ w = w' := by
  have t1 := h1.text
  have t2 := h2.text
  have hs := Lib.hid (str_eq (bySt_same h1.range h2.range))
  generalize bySt n1 f1 = s1 at *
  generalize bySt n2 f2 = s2 at *
  clear h1 h2
  go_enter Try.func28, Try.ntmps28
  go_wp2
  go_ret
  exact ⟨ret_bool hs.out, rfl⟩

set_option maxRecDepth 100000 in
set_option maxHeartbeats 4000000 in
theorem frsame_code (k k' : Int) (v v' : Nat → Value) (n n' : Nat → Nat) (f f' : Nat → Nat → Int) (w : World) (h : FrAt w v n f) (h' : FrAt w v' n' f') :
    Calls Try.prog 11 #[.agg (frA k v), .agg (frA k' v')] w fun e w' => e = .returned (.bool (sameF k n f k' n' f')) ∧ Below w.heap.size w w' := by
  obtain ⟨B, wA, wB, hB, hwA, hwB, hzA, hzB, hC0, hC1, hbC⟩ := laid2 w (.cells (frA k v) 25 (0, 0)) (.cells (frA k' v') 25 (0, 0))
  have HF0 := Lib.hid (fun (x : World) (hx : Below (B + 2) wB x) => (⟨fr_cell0 (T := 25) (v := v) ((hx.block B (by omega)).trans hC0), fr_cell0 (T := 25) (v := v') ((hx.block (B + 1) (by omega)).trans hC1)⟩ : x.cell? ⟨B, 0, none⟩ = some (.int .i64 k) ∧ x.cell? ⟨B + 1, 0, none⟩ = some (.int .i64 k')))
  have HF := Lib.hid (fun (p : Nat) (hp : p < 3) (x : World) (hx : Below (B + 2) wB x) => (⟨fr_cell (T := 25) (k := k) ((hx.block B (by omega)).trans hC0) hp, fr_cell (T := 25) (k := k') ((hx.block (B + 1) (by omega)).trans hC1) hp⟩ : x.cell? ⟨B, 1 + p, none⟩ = some (v p) ∧ x.cell? ⟨B + 1, 1 + p, none⟩ = some (v' p)))
  have hbw : ∀ x, Below (B + 2) wB x → Below w.heap.size w x := fun x hx => by rw [hB]; exact hbC.trans (hx.mono (by omega))
  have HC := Lib.hid (fun (p : Nat) (hp : p < 3) (x : World) (hx : Below (B + 2) wB x) => ((equal_code (v p) (v' p) _ _ _ _ x ((h p hp).below (hbw x hx)) ((h' p hp).below (hbw x hx))).mono fun e y h => ⟨h.1, h.2 ▸ hx⟩ : Calls Try.prog 28 #[v p, v' p] x fun e y => e = .returned (.bool (sameB (n p) (f p) (n' p) (f' p))) ∧ Below (B + 2) wB y))
  have HW := Lib.hid hbw
  have hS0 : Below (B + 2) wB wB := Below.refl _ _
  generalize frA k v = X at *
  generalize frA k' v' = X' at *
  have HWA := Lib.hid hwA
  have HWB := Lib.hid hwB
  have HB := Lib.hid hB
  clear hwA hwB hB h h' hbC hbw hC0 hC1 hzA hzB
  go_enter Try.func11, Try.ntmps11
  go_wp2
  rw [HWA.out, HB.out, HWB.out]
  go_loopw [6] (fun z wr => ∃ i : Nat, i ≤ 3 ∧ z = .int .i64 i ∧ Below (B + 2) wB wr ∧ Hid (∀ p, p < i → sameB (n p) (f p) (n' p) (f' p) = true)) (fun z _ => 3 - (intOf z).toNat)
  case atStart => exact ⟨0, by omega, rfl, hS0, fun p hp => by omega⟩
  case round =>
    clear hS0
    obtain ⟨i, hi, rfl, hx, HH⟩ := hrel
    have c00 := HF0.out wr hx
    by_cases hlt : i < 3
    · have t0 : decide ((i : Int) < 3) = true := by simp; omega
      have H1 := Lib.hid (HF.out i hlt)
      have C1 := Lib.hid (HC.out i hlt)
      have HH2 := Lib.hid (fun e => sameF_next (n := n) (n' := n') (f := f) (f' := f') HH.out e)
      have HH3 := Lib.hid (fun e => sameF_not (k := k) (k' := k') (n := n) (n' := n') (f := f) (f' := f') hlt e)
      generalize sameB (n i) (f i) (n' i) (f' i) = y at C1 HH2 HH3
      clear c00
      generalize v i = a at *
      generalize v' i = b at *
      go_wp2
      refine wp_region_calm (S := fun x => Below (B + 2) wB x) 10 (by kernel_rfl) (by kernel_rfl) hx.drew ?_
      simp only [List.take_succ_cons, List.take_zero, List.drop_succ_cons, List.drop_zero]
      refine calm_value (v := ?v0) (by kernel_rfl) ?m ?_; (case m => (intro x _; go_simp; try with_reducible rfl))
      simp only [Act.put, List.setIfInBounds_toArray, List.set_cons_zero, List.set_cons_succ]
      refine calm_value (v := ?v1) (by kernel_rfl) ?m ?_; (case m => (intro x _; go_simp; try with_reducible rfl))
      simp only [Act.put, List.setIfInBounds_toArray, List.set_cons_zero, List.set_cons_succ]
      refine calm_value (v := ?v2) (by kernel_rfl) ?m ?_; (case m => (intro x _; go_simp; rw [if_pos (by omega)]))
      simp only [Act.put, List.setIfInBounds_toArray, List.set_cons_zero, List.set_cons_succ]
      refine calm_cell 22 _ ⟨B, 1 + i, none⟩ (a) (by kernel_rfl) rfl rfl (fun x hx => by have c0 := (H1.out x hx).1; go_simp) ?_
      simp only [Act.put, List.setIfInBounds_toArray, List.set_cons_zero, List.set_cons_succ]
      refine calm_value (v := ?v4) (by kernel_rfl) ?m ?_; (case m => (intro x _; go_simp; try with_reducible rfl))
      simp only [Act.put, List.setIfInBounds_toArray, List.set_cons_zero, List.set_cons_succ]
      refine calm_value (v := ?v5) (by kernel_rfl) ?m ?_; (case m => (intro x _; go_simp; try with_reducible rfl))
      simp only [Act.put, List.setIfInBounds_toArray, List.set_cons_zero, List.set_cons_succ]
      refine calm_value (v := ?v6) (by kernel_rfl) ?m ?_; (case m => (intro x _; go_simp; rw [if_pos (by omega)]))
      simp only [Act.put, List.setIfInBounds_toArray, List.set_cons_zero, List.set_cons_succ]
      refine calm_cell 22 _ ⟨B + 1, 1 + i, none⟩ (b) (by kernel_rfl) rfl rfl (fun x hx => by have c0 := (H1.out x hx).2; go_simp) ?_
      simp only [Act.put, List.setIfInBounds_toArray, List.set_cons_zero, List.set_cons_succ]
      refine calm_call (by kernel_rfl) C1.out (fun _ => by kernel_rfl) ?_
      simp only [Act.put, List.setIfInBounds_toArray, List.set_cons_zero, List.set_cons_succ]
      refine calm_value (v := ?v9) (by kernel_rfl) ?m ?_; (case m => (intro x _; go_simp; try with_reducible rfl))
      simp only [Act.put, List.setIfInBounds_toArray, List.set_cons_zero, List.set_cons_succ]
      refine calm_nil fun x hx => ?_
      cases y with
      | true =>
        go_wp2
        go_roundw
        case rel => exact ⟨i + 1, by omega, by go_num, hx, HH2.out rfl⟩
        case measure => simp [intOf]; omega
      | false =>
        go_wp2
        go_ret
        exact ⟨ret_bool (HH3.out (by trivial)).symm, HW.out _ hx⟩
    · obtain rfl : i = 3 := by omega
      have t0 : decide ((3 : Int) < 3) = false := by simp
      have HE := Lib.hid (sameF_all (k := k) (k' := k') HH.out)
      obtain ⟨c0, c1⟩ := c00
      go_wp2
      go_ret
      exact ⟨ret_bool (by rw [HE.out]; rfl), HW.out _ hx⟩
set_option maxRecDepth 100000 in
set_option maxHeartbeats 4000000 in
theorem frsame_page (k k' : Int) (v v' : Nat → Value) (n n' : Nat → Nat) (f f' : Nat → Nat → Int) (w : World) (h : FrAt w v n f) (h' : FrAt w v' n' f') :
    Calls Try.prog 12 #[.agg (frA k v), .agg (frA k' v')] w fun e w' => e = .returned (.bool (sameF k n f k' n' f')) ∧ Below w.heap.size w w' := by
  obtain ⟨B, wA, wB, hB, hwA, hwB, hzA, hzB, hC0, hC1, hbC⟩ := laid2 w (.cells (frA k v) 25 (0, 0)) (.cells (frA k' v') 25 (0, 0))
  have HF0 := Lib.hid (fun (x : World) (hx : Below (B + 2) wB x) => (⟨fr_cell0 (T := 25) (v := v) ((hx.block B (by omega)).trans hC0), fr_cell0 (T := 25) (v := v') ((hx.block (B + 1) (by omega)).trans hC1)⟩ : x.cell? ⟨B, 0, none⟩ = some (.int .i64 k) ∧ x.cell? ⟨B + 1, 0, none⟩ = some (.int .i64 k')))
  have HF := Lib.hid (fun (p : Nat) (hp : p < 3) (x : World) (hx : Below (B + 2) wB x) => (⟨fr_cell (T := 25) (k := k) ((hx.block B (by omega)).trans hC0) hp, fr_cell (T := 25) (k := k') ((hx.block (B + 1) (by omega)).trans hC1) hp⟩ : x.cell? ⟨B, 1 + p, none⟩ = some (v p) ∧ x.cell? ⟨B + 1, 1 + p, none⟩ = some (v' p)))
  have hbw : ∀ x, Below (B + 2) wB x → Below w.heap.size w x := fun x hx => by rw [hB]; exact hbC.trans (hx.mono (by omega))
  have HC := Lib.hid (fun (p : Nat) (hp : p < 3) (x : World) (hx : Below (B + 2) wB x) => (⟨((h p hp).below (hbw x hx)).text, ((h' p hp).below (hbw x hx)).text⟩ : (convert 22 9 (v p)).run Try.prog x = .ok (.string (bySt (n p) (f p))) x ∧ (convert 22 9 (v' p)).run Try.prog x = .ok (.string (bySt (n' p) (f' p))) x))
  have HE := Lib.hid (fun (p : Nat) (hp : p < 3) => str_eq (bySt_same (h p hp).range (h' p hp).range))
  have HW := Lib.hid hbw
  have hS0 : Below (B + 2) wB wB := Below.refl _ _
  unfold frA frL at hwA hwB ⊢
  have HWA := Lib.hid hwA
  have HWB := Lib.hid hwB
  have HB := Lib.hid hB
  clear hwA hwB hB h h' hbC hbw hC0 hC1 hzA hzB
  by_cases hk : k = k'
  case neg =>
    have hq : (k != k') = true := by simp [hk]
    have hz := Lib.hid (show sameF k n f k' n' f' = false by unfold sameF; rw [decide_eq_false hk]; rfl)
    have hbe := HW.out wB hS0
    rw [← HWB.out, ← HWA.out] at hbe
    go_enter Try.func12, Try.ntmps12
    go_wp2
    go_ret
    exact ⟨ret_bool hz.out.symm, hbe⟩
  have hq : (k != k') = false := by simp [hk]
  have HK := Lib.hid hk
  clear hk
  go_enter Try.func12, Try.ntmps12
  go_wp2
  rw [HWA.out, HB.out, HWB.out]
  go_loopw [5] (fun z wr => ∃ i : Nat, i ≤ 3 ∧ z = .int .i64 i ∧ Below (B + 2) wB wr ∧ Hid (∀ p, p < i → sameB (n p) (f p) (n' p) (f' p) = true)) (fun z _ => 3 - (intOf z).toNat)
  case atStart => exact ⟨0, by omega, rfl, hS0, fun p hp => by omega⟩
  case round =>
    clear hS0
    obtain ⟨i, hi, rfl, hx, HH⟩ := hrel
    by_cases hlt : i < 3
    · have t0 : decide ((i : Int) < 3) = true := by simp; omega
      have H1 := Lib.hid (HF.out i hlt)
      have C1 := Lib.hid (HC.out i hlt)
      have E1 := HE.out i hlt
      have HH2 := Lib.hid (fun e => sameF_next (n := n) (n' := n') (f := f) (f' := f') HH.out e)
      have HH3 := Lib.hid (fun e => sameF_not (k := k) (k' := k') (n := n) (n' := n') (f := f) (f' := f') hlt e)
      generalize bySt (n i) (f i) = s1 at C1 E1
      generalize bySt (n' i) (f' i) = s2 at C1 E1
      generalize sameB (n i) (f i) (n' i) (f' i) = y at E1 HH2 HH3
      generalize v i = a at H1 C1
      generalize v' i = b at H1 C1
      go_wp2
      refine wp_region_calm (S := fun x => Below (B + 2) wB x) 11 (by kernel_rfl) (by kernel_rfl) hx.drew ?_
      simp only [List.take_succ_cons, List.take_zero, List.drop_succ_cons, List.drop_zero]
      refine calm_value (v := ?v0) (by kernel_rfl) ?m ?_; (case m => (intro x _; go_simp; try with_reducible rfl))
      simp only [Act.put, List.setIfInBounds_toArray, List.set_cons_zero, List.set_cons_succ]
      refine calm_value (v := ?v1) (by kernel_rfl) ?m ?_; (case m => (intro x _; go_simp; try with_reducible rfl))
      simp only [Act.put, List.setIfInBounds_toArray, List.set_cons_zero, List.set_cons_succ]
      refine calm_value (v := ?v2) (by kernel_rfl) ?m ?_; (case m => (intro x _; go_simp; rw [if_pos (by omega)]))
      simp only [Act.put, List.setIfInBounds_toArray, List.set_cons_zero, List.set_cons_succ]
      refine calm_cell 22 _ ⟨B, 1 + i, none⟩ (a) (by kernel_rfl) rfl rfl (fun x hx => by have c0 := (H1.out x hx).1; go_simp) ?_
      simp only [Act.put, List.setIfInBounds_toArray, List.set_cons_zero, List.set_cons_succ]
      refine calm_value (v := .string s1) (by kernel_rfl) ?m ?_; (case m => (intro x hx; have t := (C1.out x hx).1; go_simp; try with_reducible rfl))
      simp only [Act.put, List.setIfInBounds_toArray, List.set_cons_zero, List.set_cons_succ]
      refine calm_value (v := ?v5) (by kernel_rfl) ?m ?_; (case m => (intro x _; go_simp; try with_reducible rfl))
      simp only [Act.put, List.setIfInBounds_toArray, List.set_cons_zero, List.set_cons_succ]
      refine calm_value (v := ?v6) (by kernel_rfl) ?m ?_; (case m => (intro x _; go_simp; try with_reducible rfl))
      simp only [Act.put, List.setIfInBounds_toArray, List.set_cons_zero, List.set_cons_succ]
      refine calm_value (v := ?v7) (by kernel_rfl) ?m ?_; (case m => (intro x _; go_simp; rw [if_pos (by omega)]))
      simp only [Act.put, List.setIfInBounds_toArray, List.set_cons_zero, List.set_cons_succ]
      refine calm_cell 22 _ ⟨B + 1, 1 + i, none⟩ (b) (by kernel_rfl) rfl rfl (fun x hx => by have c0 := (H1.out x hx).2; go_simp) ?_
      simp only [Act.put, List.setIfInBounds_toArray, List.set_cons_zero, List.set_cons_succ]
      refine calm_value (v := .string s2) (by kernel_rfl) ?m ?_; (case m => (intro x hx; have t := (C1.out x hx).2; go_simp; try with_reducible rfl))
      simp only [Act.put, List.setIfInBounds_toArray, List.set_cons_zero, List.set_cons_succ]
      refine calm_value (v := ?v10) (by kernel_rfl) ?m ?_; (case m => (intro x _; go_simp; try with_reducible rfl))
      simp only [Act.put, List.setIfInBounds_toArray, List.set_cons_zero, List.set_cons_succ]
      refine calm_nil fun x hx => ?_
      cases y with
      | true =>
        go_wp2
        go_roundw
        case rel => exact ⟨i + 1, by omega, by go_num, hx, HH2.out (by trivial)⟩
        case measure => simp [intOf]; omega
      | false =>
        go_wp2
        go_ret
        exact ⟨ret_bool (HH3.out (by trivial)).symm, HW.out _ hx⟩
    · obtain rfl : i = 3 := by omega
      have t0 : decide ((3 : Int) < 3) = false := by simp
      have HEE := Lib.hid (sameF_all (k := k) (k' := k') HH.out)
      go_wp2
      go_ret
      exact ⟨ret_bool (by rw [HEE.out, decide_eq_true HK.out]), HW.out _ hx⟩
end Go.Proofs.Ytmmgbnjfbapmcaa
