/- The walk of PlanesNew. No condition. -/
import Derived.Test.YtmmgbnjfbapmcaaPopen
namespace Go.Proofs.Ytmmgbnjfbapmcaa
open Go.RowKit

set_option maxRecDepth 1000000 in
set_option maxHeartbeats 8000000 in
theorem planesNew_walk (k : Int) (v : Nat → Value) (n : Nat → Nat) (f : Nat → Nat → Int) (k' : Int) (v' : Nat → Value) (n' : Nat → Nat) (f' : Nat → Nat → Int) (s : Int) (w : World)
    (_ : (Lit.int .i64 k).wf = true) (h : FrAt w v n f) (_ : ∀ p, p < 3 → n p ≤ maxLen) (_ : (Lit.int .i64 k').wf = true) (h' : FrAt w v' n' f') (_ : ∀ p, p < 3 → n' p ≤ maxLen) (_ : (Lit.int .i64 s).wf = true) :
    Calls Try.prog 3 #[.agg (frA k v), .agg (frA k' v'), .int .i64 s] w fun e w' => e = .returned (.bool true) ∧ Below w.heap.size w w' := by
  obtain ⟨B, wA, wB, hB, hwA, hwB, hzA, hzB, hC0, hC1, hbC⟩ := laid2 w (.cells (frA k v) 25 (0, 0)) (.cells (frA k' v') 25 (0, 0))
  have hw : ∀ x, Below (B + 2) wB x → Below w.heap.size w x := fun x hx => by rw [hB]; exact hbC.trans (hx.mono (by omega))
  have K : ∀ (x y : World), Below (B + 2) wB x → Below x.heap.size x y → Below (B + 2) wB y := fun x y hx hy => hx.trans (hy.mono (by have := hx.size; omega))
  have HX := Lib.hid (fun (x : World) (hx : Below (B + 2) wB x) => (⟨(hx.block B (by omega)).trans hC0, (hx.block (B + 1) (by omega)).trans hC1⟩ : x.heap[B]? = some (.cells (frA k v) 25 (0, 0)) ∧ x.heap[B + 1]? = some (.cells (frA k' v') 25 (0, 0))))
  have HX0 := Lib.hid (fun (x : World) (hx : Below (B + 2) wB x) => ((hx.block B (by omega)).trans hC0 : x.heap[B]? = some (.cells (frA k v) 25 (0, 0))))
  have HX1 := Lib.hid (fun (x : World) (hx : Below (B + 2) wB x) => ((hx.block (B + 1) (by omega)).trans hC1 : x.heap[B + 1]? = some (.cells (frA k' v') 25 (0, 0))))
  have HK := Lib.hid (fun (x : World) (hx : Below (B + 2) wB x) => fr_cell0 (T := 25) (v := v) ((hx.block B (by omega)).trans hC0))
  have L1 := Lib.hid (fun (x : World) (hx : Below (B + 2) wB x) => ((light_code k v n x h.slices).mono fun e y h => ⟨h.1, K x y hx h.2⟩ : Calls Try.prog 7 #[.agg (frA k v)] x fun e y => e = .returned (.bool (lightF n)) ∧ Below (B + 2) wB y))
  have L2 := Lib.hid (fun (x : World) (hx : Below (B + 2) wB x) => ((light_code k' v' n' x h'.slices).mono fun e y h => ⟨h.1, K x y hx h.2⟩ : Calls Try.prog 7 #[.agg (frA k' v')] x fun e y => e = .returned (.bool (lightF n')) ∧ Below (B + 2) wB y))
  have C1 := Lib.hid (fun (x : World) (hx : Below (B + 2) wB x) => ((frright_code k v n x h.slices).mono fun e y h => ⟨h.1, K x y hx h.2⟩ : Calls Try.prog 9 #[.agg (frA k v)] x fun e y => e = .returned (.bool (rightF k n)) ∧ Below (B + 2) wB y))
  have C2 := Lib.hid (fun (x : World) (hx : Below (B + 2) wB x) => ((frright_page k v n x h.slices).mono fun e y h => ⟨h.1, K x y hx h.2⟩ : Calls Try.prog 10 #[.agg (frA k v)] x fun e y => e = .returned (.bool (rightF k n)) ∧ Below (B + 2) wB y))
  have C3 := Lib.hid (fun (x : World) (hx : Below (B + 2) wB x) => ((frsame_code k k' v v' n n' f f' x (h.below (hw x hx)) (h'.below (hw x hx))).mono fun e y h => ⟨h.1, K x y hx h.2⟩ : Calls Try.prog 11 #[.agg (frA k v), .agg (frA k' v')] x fun e y => e = .returned (.bool (sameF k n f k' n' f')) ∧ Below (B + 2) wB y))
  have C4 := Lib.hid (fun (x : World) (hx : Below (B + 2) wB x) => ((frsame_page k k' v v' n n' f f' x (h.below (hw x hx)) (h'.below (hw x hx))).mono fun e y h => ⟨h.1, K x y hx h.2⟩ : Calls Try.prog 12 #[.agg (frA k v), .agg (frA k' v')] x fun e y => e = .returned (.bool (sameF k n f k' n' f')) ∧ Below (B + 2) wB y))
  have C5 := Lib.hid (fun (x : World) (hx : Below (B + 2) wB x) => ((frsame_code k k v v n n f f x (h.below (hw x hx)) (h.below (hw x hx))).mono fun e y h => ⟨h.1.trans (by rw [sameF_self]), K x y hx h.2⟩ : Calls Try.prog 11 #[.agg (frA k v), .agg (frA k v)] x fun e y => e = .returned (.bool true) ∧ Below (B + 2) wB y))
  have CL := Lib.hid (fun (x : World) (hx : Below (B + 2) wB x) => ((lives17 x).mono fun e y h => ⟨h.1, K x y hx h.2⟩ : Calls Try.prog 8 #[] x fun e y => e = .returned (.bool true) ∧ Below (B + 2) wB y))
  have hS0 : Below (B + 2) wB wB := Below.refl _ _
  have HSX := fr_sized fr_size k v
  have HSX' := fr_sized fr_size k' v'
  have HW := Lib.hid hw
  have KK := Lib.hid K
  have HWA := Lib.hid hwA
  have HWB := Lib.hid hwB
  have HB := Lib.hid hB
  generalize hl1 : lightF n = l1 at *
  generalize hl2 : lightF n' = l2 at *
  generalize rightF k n = y1 at *
  generalize sameF k n f k' n' f' = y2 at *
  generalize frA k v = X at *
  generalize frA k' v' = X' at *
  clear hw K hwA hwB hB h h' hbC hl1 hl2 hC0 hC1 hzA hzB
  have h00 := (HX.out wB hS0).1
  have h01 := (HX.out wB hS0).2
  cases l1 with
  | false =>
    go_enter Try.func3, Try.ntmps3
    go_wp2_with (rw [HWA.out, HB.out, HWB.out]; with_reducible refine wpList_load_row rfl 25 _ rfl B rfl 25 X (0, 0) _ h00 Try.underlying25 rfl HSX ?_)
    refine (L1.out _ hS0).mono ?_
    rintro e x ⟨rfl, hx⟩
    go_wp2_with fail
    refine (CL.out _ hx).mono ?_
    rintro e x2 ⟨rfl, hx2⟩
    go_wp2
    go_ret
    exact ⟨rfl, HW.out _ hx2⟩
  | true =>
  cases l2 with
  | false =>
    go_enter Try.func3, Try.ntmps3
    go_wp2_with (rw [HWA.out, HB.out, HWB.out]; with_reducible refine wpList_load_row rfl 25 _ rfl B rfl 25 X (0, 0) _ h00 Try.underlying25 rfl HSX ?_)
    refine (L1.out _ hS0).mono ?_
    rintro e x ⟨rfl, hx⟩
    have h01 := (HX.out x hx).2
    go_wp2_with (with_reducible refine wpList_wanted_load (by kernel_rfl) 25 _ rfl (B + 1) rfl 25 X' (0, 0) _ h01 Try.underlying25 rfl HSX' ?_)
    refine (L2.out _ hx).mono ?_
    rintro e x1 ⟨rfl, hx1⟩
    go_wp2_with fail
    refine (CL.out _ hx1).mono ?_
    rintro e x2 ⟨rfl, hx2⟩
    go_wp2
    go_ret
    exact ⟨rfl, HW.out _ hx2⟩
  | true =>
  by_cases h35 : 3 ≤ k ∧ k ≤ 5
  · have t1 : decide (3 ≤ k) = true := decide_eq_true (by omega)
    have t2 : decide (k ≤ 5) = true := decide_eq_true (by omega)
    clear h35
    go_enter Try.func3, Try.ntmps3
    go_wp2_with (rw [HWA.out, HB.out, HWB.out]; with_reducible refine wpList_load_row rfl 25 _ rfl B rfl 25 X (0, 0) _ h00 Try.underlying25 rfl HSX ?_)
    refine (L1.out _ hS0).mono ?_
    rintro e x ⟨rfl, hx⟩
    have h01 := (HX.out x hx).2
    go_wp2_with (with_reducible refine wpList_wanted_load (by kernel_rfl) 25 _ rfl (B + 1) rfl 25 X' (0, 0) _ h01 Try.underlying25 rfl HSX' ?_)
    refine (L2.out _ hx).mono ?_
    rintro e x1 ⟨rfl, hx1⟩
    have ck := HK.out x1 hx1
    go_wp2_with fail
    refine (CL.out _ hx1).mono ?_
    rintro e x2 ⟨rfl, hx2⟩
    go_wp2
    go_ret
    exact ⟨rfl, HW.out _ hx2⟩
  · have h36 : k < 3 ∨ (3 ≤ k ∧ 5 < k) := by omega
    clear h35
    rcases h36 with h36 | ⟨h36, h37⟩
    all_goals
      (first | have t1 : decide (3 ≤ k) = false := decide_eq_false (by omega) | (have t1 : decide (3 ≤ k) = true := decide_eq_true (by omega); have t2 : decide (k ≤ 5) = false := decide_eq_false (by omega)))
      go_enter Try.func3, Try.ntmps3
      go_wp2_with (rw [HWA.out, HB.out, HWB.out]; with_reducible refine wpList_load_row rfl 25 _ rfl B rfl 25 X (0, 0) _ h00 Try.underlying25 rfl HSX ?_)
      refine (L1.out _ hS0).mono ?_
      rintro e x ⟨rfl, hx⟩
      have h01 := (HX.out x hx).2
      go_wp2_with (with_reducible refine wpList_wanted_load (by kernel_rfl) 25 _ rfl (B + 1) rfl 25 X' (0, 0) _ h01 Try.underlying25 rfl HSX' ?_)
      refine (L2.out _ hx).mono ?_
      rintro e x1 ⟨rfl, hx1⟩
      have ck := HK.out x1 hx1
      clear hx h01 h00 hS0
      go_wp2
      refine wp_region_calm (S := fun x => Below (B + 2) wB x) 20 (by kernel_rfl) (by kernel_rfl) hx1.drew ?_
      simp only [List.take_succ_cons, List.take_zero, List.drop_succ_cons, List.drop_zero]
      refine calm_load 25 _ B 25 X (0, 0) _ (by kernel_rfl) rfl rfl (fun x hx => HX0.out x hx) Try.underlying25 rfl HSX ?_
      simp only [Act.put, List.setIfInBounds_toArray, List.set_cons_zero, List.set_cons_succ]
      refine calm_call (by kernel_rfl) C1.out (fun _ => by kernel_rfl) ?_
      simp only [Act.put, List.setIfInBounds_toArray, List.set_cons_zero, List.set_cons_succ]
      refine calm_load 25 _ B 25 X (0, 0) _ (by kernel_rfl) rfl rfl (fun x hx => HX0.out x hx) Try.underlying25 rfl HSX ?_
      simp only [Act.put, List.setIfInBounds_toArray, List.set_cons_zero, List.set_cons_succ]
      refine calm_call (by kernel_rfl) C2.out (fun _ => by kernel_rfl) ?_
      simp only [Act.put, List.setIfInBounds_toArray, List.set_cons_zero, List.set_cons_succ]
      refine calm_value (v := ?v4) (by kernel_rfl) ?m ?_; (case m => (intro x _; go_simp; try with_reducible rfl))
      simp only [Act.put, List.setIfInBounds_toArray, List.set_cons_zero, List.set_cons_succ]
      refine calm_value (v := ?v5) (by kernel_rfl) ?m ?_; (case m => (intro x _; go_simp; try with_reducible rfl))
      simp only [Act.put, List.setIfInBounds_toArray, List.set_cons_zero, List.set_cons_succ]
      refine calm_load 25 _ B 25 X (0, 0) _ (by kernel_rfl) rfl rfl (fun x hx => HX0.out x hx) Try.underlying25 rfl HSX ?_
      simp only [Act.put, List.setIfInBounds_toArray, List.set_cons_zero, List.set_cons_succ]
      refine calm_load 25 _ (B + 1) 25 X' (0, 0) _ (by kernel_rfl) rfl rfl (fun x hx => HX1.out x hx) Try.underlying25 rfl HSX' ?_
      simp only [Act.put, List.setIfInBounds_toArray, List.set_cons_zero, List.set_cons_succ]
      refine calm_call (by kernel_rfl) C3.out (fun _ => by kernel_rfl) ?_
      simp only [Act.put, List.setIfInBounds_toArray, List.set_cons_zero, List.set_cons_succ]
      refine calm_load 25 _ B 25 X (0, 0) _ (by kernel_rfl) rfl rfl (fun x hx => HX0.out x hx) Try.underlying25 rfl HSX ?_
      simp only [Act.put, List.setIfInBounds_toArray, List.set_cons_zero, List.set_cons_succ]
      refine calm_load 25 _ (B + 1) 25 X' (0, 0) _ (by kernel_rfl) rfl rfl (fun x hx => HX1.out x hx) Try.underlying25 rfl HSX' ?_
      simp only [Act.put, List.setIfInBounds_toArray, List.set_cons_zero, List.set_cons_succ]
      refine calm_call (by kernel_rfl) C4.out (fun _ => by kernel_rfl) ?_
      simp only [Act.put, List.setIfInBounds_toArray, List.set_cons_zero, List.set_cons_succ]
      refine calm_value (v := ?v12) (by kernel_rfl) ?m ?_; (case m => (intro x _; go_simp; try with_reducible rfl))
      simp only [Act.put, List.setIfInBounds_toArray, List.set_cons_zero, List.set_cons_succ]
      refine calm_value (v := ?v13) (by kernel_rfl) ?m ?_; (case m => (intro x _; go_simp; try with_reducible rfl))
      simp only [Act.put, List.setIfInBounds_toArray, List.set_cons_zero, List.set_cons_succ]
      refine calm_value (v := ?v14) (by kernel_rfl) ?m ?_; (case m => (intro x _; go_simp; try with_reducible rfl))
      simp only [Act.put, List.setIfInBounds_toArray, List.set_cons_zero, List.set_cons_succ]
      refine calm_load 25 _ B 25 X (0, 0) _ (by kernel_rfl) rfl rfl (fun x hx => HX0.out x hx) Try.underlying25 rfl HSX ?_
      simp only [Act.put, List.setIfInBounds_toArray, List.set_cons_zero, List.set_cons_succ]
      refine calm_load 25 _ B 25 X (0, 0) _ (by kernel_rfl) rfl rfl (fun x hx => HX0.out x hx) Try.underlying25 rfl HSX ?_
      simp only [Act.put, List.setIfInBounds_toArray, List.set_cons_zero, List.set_cons_succ]
      refine calm_call (by kernel_rfl) C5.out (fun _ => by kernel_rfl) ?_
      simp only [Act.put, List.setIfInBounds_toArray, List.set_cons_zero, List.set_cons_succ]
      refine calm_value (v := ?v18) (by kernel_rfl) ?m ?_; (case m => (intro x _; go_simp; try with_reducible rfl))
      simp only [Act.put, List.setIfInBounds_toArray, List.set_cons_zero, List.set_cons_succ]
      refine calm_value (v := ?v19) (by kernel_rfl) ?m ?_; (case m => (intro x _; go_simp; try with_reducible rfl))
      simp only [Act.put, List.setIfInBounds_toArray, List.set_cons_zero, List.set_cons_succ]
      refine calm_nil fun x hx => ?_
      have ck := HK.out x hx
      clear C1 C2 C3 C4 C5 L1 L2 HX0 HX1 HX hx1
      cases hq : isFmt k with
      | false =>
        go_wp2_with fail
        refine (new_none k s _ hq).mono ?_
        rintro e x3 ⟨rfl, hb3⟩
        have hx3 : Below (B + 2) wB x3 := KK.out _ _ hx hb3
        have HSV := fr_sized fr_size 0 nilV
        have HOV := fr_ones 0 nilV (fun _ _ => rfl)
        have CS := Lib.hid (fun (x : World) => ((frsame_code 0 0 nilV nilV (fun _ => 0) (fun _ => 0) (fun _ _ => 0) (fun _ _ => 0) x (FrAt.nil x) (FrAt.nil x)).mono fun e y h => ⟨h.1.trans (by rw [sameF_self]), h.2⟩ : Calls Try.prog 11 #[.agg (frA 0 nilV), .agg (frA 0 nilV)] x fun e y => e = .returned (.bool true) ∧ Below x.heap.size x y))
        have ecn : cells k = 0 := cells_none hq
        obtain ⟨w4, hw4⟩ : ∃ w4, x3.alloc (.cells (frA 0 nilV) 25 (0, 0)) = w4 := ⟨_, rfl⟩
        have hb4 : Below x3.heap.size x3 w4 := by rw [← hw4]; exact (Below.refl _ x3).alloc (Nat.le_refl _) _
        have h4 : w4.heap[x3.heap.size]? = some (.cells (frA 0 nilV) 25 (0, 0)) := by rw [← hw4]; exact heap_alloc_new x3 _
        have hz4 : w4.heap.size = x3.heap.size + 1 := by rw [← hw4]; simp
        have hx4 := KK.out _ _ hx3 hb4
        have ck4 := HK.out _ hx4
        have hFz : ∀ w, (zeroValue 25).run Try.prog w = .ok (.agg (frA 0 nilV)) w := fr_zero
        generalize frA 0 nilV = Z at *
        have HW4 := Lib.hid hw4
        clear hw4 hx3 hb3 hb4 ck
        go_wp2_with (first | (with_reducible refine wp_store_fresh rfl 25 _ _ rfl Z Z 25 rfl rfl HSV rfl HOV ?_; rw [HW4.out]))
        refine (many_page k _).mono ?_
        rintro e w5 ⟨rfl, hb5⟩
        rw [ecn]
        have h5 := (hb5.block x3.heap.size (by omega)).trans h4
        have hx5 := KK.out _ _ hx4 hb5
        go_wp2_with (with_reducible refine wpList_load_row rfl 25 _ rfl x3.heap.size rfl 25 Z (0, 0) _ h5 Try.underlying25 rfl HSV ?_)
        with_reducible refine (CS.out _).mono ?_
        rintro e w6 ⟨rfl, hb6⟩
        have hx6 := KK.out _ _ hx5 hb6
        go_wp2_with fail
        refine (CL.out _ hx6).mono ?_
        rintro e w7 ⟨rfl, hx7⟩
        go_wp2
        go_ret
        exact ⟨rfl, HW.out _ hx7⟩
      | true =>
        go_wp2_with fail
        refine (new_code k s _ hq).mono ?_
        rintro e x3 ⟨v2, g2, rfl, hO, hb3⟩
        have hx3 : Below (B + 2) wB x3 := KK.out _ _ hx hb3
        have HSV := fr_sized fr_size k v2
        have HOV := fr_ones k v2 hO.ones
        have HN := Lib.hid (fun p (_ : p < 3) => siz_some hq p)
        have t5 : ((cells k : Int) == 0) = false := by
          have := acr_some hq
          have h0 : 0 < cells k := Nat.mul_pos this.1 this.2
          simp
          omega
        obtain ⟨w4, hw4⟩ : ∃ w4, x3.alloc (.cells (frA k v2) 25 (0, 0)) = w4 := ⟨_, rfl⟩
        have hb4 : Below x3.heap.size x3 w4 := by rw [← hw4]; exact (Below.refl _ x3).alloc (Nat.le_refl _) _
        have h4 : w4.heap[x3.heap.size]? = some (.cells (frA k v2) 25 (0, 0)) := by rw [← hw4]; exact heap_alloc_new x3 _
        have hz4 : w4.heap.size = x3.heap.size + 1 := by rw [← hw4]; simp
        have hx4 := KK.out _ _ hx3 hb4
        have ck4 := HK.out _ hx4
        have hO4 := hO.below HN.out hb4
        have hFz : ∀ w, (zeroValue 25).run Try.prog w = .ok (.agg (frA 0 nilV)) w := fr_zero
        have HYS : (frA 0 nilV).size = 4 := rfl
        have HZS : (frA k v2).size = 4 := rfl
        generalize frA 0 nilV = Y at *
        have HYV : Y.size = (frA k v2).size := by rw [HYS, HZS]
        obtain ⟨Z, hZ⟩ : ∃ Z, frA k v2 = Z := ⟨_, rfl⟩
        rw [hZ] at HSV HOV HYV hw4 h4
        rw [hZ]
        have HW4 := Lib.hid hw4
        have HZ := Lib.hid hZ
        have HO4 := Lib.hid hO4
        clear hw4 hx3 hb3 hb4 ck hZ hO hO4 HYS HZS
        go_wp2_with (first | (with_reducible refine wp_store_fresh rfl 25 _ _ rfl Z Y 25 rfl rfl HSV HYV HOV ?_; rw [HW4.out]))
        refine (many_page k _).mono ?_
        rintro e x5 ⟨rfl, hb5⟩
        have H5 := Lib.hid ((hb5.block x3.heap.size (by omega)).trans h4)
        have hO5 := HO4.out.below HN.out hb5
        have HX5 := Lib.hid (KK.out _ _ hx4 hb5)
        have HL := Lib.hid (show x3.heap.size < x5.heap.size by have := hb5.size; omega)
        have HO5 := Lib.hid hO5
        clear hO5 hb5 hx4 h4 ck4 hz4
        go_wp2
        refine wp_region_held_drew (S := (fun x => Below x5.heap.size x5 x)) (by kernel_rfl) (Below.refl _ _).drew (fun hH => ?_)
        refine held_take 0 (some 69) (v := ?_) rfl rfl (by kernel_rfl) (by kernel_rfl) (by kernel_rfl) (fun _ _ _ h => h) hH (Or.inl ⟨by kernel_rfl, ?_⟩) ?_
        rotate_left
        · (intro x _; go_simp; try with_reducible rfl)
        rotate_right
        try simp only [Act.put, List.setIfInBounds_toArray, List.set_cons_zero, List.set_cons_succ]
        refine held_take 1 (some 70) (v := ?_) rfl rfl (by kernel_rfl) (by kernel_rfl) (by kernel_rfl) (fun _ _ _ h => h) hH (Or.inl ⟨by kernel_rfl, ?_⟩) ?_
        rotate_left
        · (intro x _; go_simp; try with_reducible rfl)
        rotate_right
        try simp only [Act.put, List.setIfInBounds_toArray, List.set_cons_zero, List.set_cons_succ]
        refine held_take 2 (some 71) (v := ?_) rfl rfl (by kernel_rfl) (by kernel_rfl) (by kernel_rfl) (fun _ _ _ h => h) hH (Or.inl ⟨by kernel_rfl, ?_⟩) ?_
        rotate_left
        · (intro x _; go_simp; try with_reducible rfl)
        rotate_right
        try simp only [Act.put, List.setIfInBounds_toArray, List.set_cons_zero, List.set_cons_succ]
        refine held_take 3 (some 72) (v := .agg Z) rfl rfl (by kernel_rfl) (by kernel_rfl) (by kernel_rfl) (fun _ _ _ h => h) hH (Or.inl ⟨by kernel_rfl, fun x hx => exec_load (ty := 25) (x := .tmp 7) (ad := ⟨x3.heap.size, 0, none⟩) (by kernel_rfl) (by kernel_rfl) (run_loadVar_row x (x3.heap.size) _ _ Z (0, 0) _ (hx.block _ HL.out |>.trans H5.out) Try.underlying25 rfl HSV)⟩) ?_
        try simp only [Act.put, List.setIfInBounds_toArray, List.set_cons_zero, List.set_cons_succ]
        refine held_take 4 (some 73) (v := ?_) rfl rfl (by kernel_rfl) (by kernel_rfl) (by kernel_rfl) (fun _ _ _ h => h) hH (Or.inl ⟨by kernel_rfl, ?_⟩) ?_
        rotate_left
        · (intro x _; go_simp; try with_reducible rfl)
        rotate_right
        try simp only [Act.put, List.setIfInBounds_toArray, List.set_cons_zero, List.set_cons_succ]
        refine held_take 5 (some 74) (v := .int .i64 k) rfl rfl (by kernel_rfl) (by kernel_rfl) (by kernel_rfl) (fun _ _ _ h => h) hH (Or.inl ⟨by kernel_rfl, ?_⟩) ?_
        · (intro x hx; have c0 := HK.out x (KK.out _ _ HX5.out hx); go_simp)
        try simp only [Act.put, List.setIfInBounds_toArray, List.set_cons_zero, List.set_cons_succ]
        refine held_take 6 (some 75) (v := ?_) rfl rfl (by kernel_rfl) (by kernel_rfl) (by kernel_rfl) (fun _ _ _ h => h) hH (Or.inl ⟨by kernel_rfl, ?_⟩) ?_
        rotate_left
        · (intro x _; go_simp; try with_reducible rfl)
        rotate_right
        try simp only [Act.put, List.setIfInBounds_toArray, List.set_cons_zero, List.set_cons_succ]
        refine wpAnyH_ready (rs := [7]) (by kernel_rfl) (by simp) ?_
        refine AllReadyH.cons rfl (fun K hK => ?_) AllReadyH.nil
        go_simp
        go_wp2_with fail
        refine (new_page k s _ hq).mono ?_
        rintro e x6 ⟨v3, g3, rfl, hO3, hb6⟩
        refine hK.out _ _ (hH.trans (hb6.mono hH.size)) (fun hH2 => ?_)
        clear hK K hH
        have hH := hH2
        clear hH2
        try simp only [Act.put, List.setIfInBounds_toArray, List.set_cons_zero, List.set_cons_succ]
        refine wpAnyH_ready (rs := [8]) (by kernel_rfl) (by simp) ?_
        refine AllReadyH.cons rfl (fun K hK => ?_) AllReadyH.nil
        go_simp
        go_wp2_with fail
        have C6 := frsame_page k k v2 v3 (siz k) (siz k) _ _ x6 (HO5.out.below HN.out hH).at hO3.at
        rw [HZ.out, sameF_self] at C6
        refine C6.mono ?_
        rintro e x7 ⟨rfl, hb7⟩
        refine hK.out _ _ (hH.trans (hb7.mono hH.size)) (fun hH2 => ?_)
        clear hK K hH
        have hH := hH2
        clear hH2
        try simp only [Act.put, List.setIfInBounds_toArray, List.set_cons_zero, List.set_cons_succ]
        refine held_take 9 (some 78) (v := ?_) rfl rfl (by kernel_rfl) (by kernel_rfl) (by kernel_rfl) (fun _ _ _ h => h) hH (Or.inl ⟨by kernel_rfl, ?_⟩) ?_
        rotate_left
        · (intro x _; go_simp; try with_reducible rfl)
        rotate_right
        try simp only [Act.put, List.setIfInBounds_toArray, List.set_cons_zero, List.set_cons_succ]
        refine held_take 10 (some 79) (v := ?_) rfl rfl (by kernel_rfl) (by kernel_rfl) (by kernel_rfl) (fun _ _ _ h => h) hH (Or.inl ⟨by kernel_rfl, ?_⟩) ?_
        rotate_left
        · (intro x _; go_simp; try with_reducible rfl)
        rotate_right
        try simp only [Act.put, List.setIfInBounds_toArray, List.set_cons_zero, List.set_cons_succ]
        refine wpAnyH_ready (rs := [11]) (by kernel_rfl) (by simp) ?_
        refine AllReadyH.cons rfl (fun K hK => ?_) AllReadyH.nil
        go_simp
        go_wp2_with fail
        refine (lives17 _).mono ?_
        rintro e x8 ⟨rfl, hb8⟩
        refine hK.out _ _ (hH.trans (hb8.mono hH.size)) (fun hH2 => ?_)
        clear hK K hH
        have hH := hH2
        clear hH2
        try simp only [Act.put, List.setIfInBounds_toArray, List.set_cons_zero, List.set_cons_succ]
        refine held_take 12 (some 81) (v := ?_) rfl rfl (by kernel_rfl) (by kernel_rfl) (by kernel_rfl) (fun _ _ _ h => h) hH (Or.inl ⟨by kernel_rfl, ?_⟩) ?_
        rotate_left
        · (intro x _; go_simp; try with_reducible rfl)
        rotate_right
        try simp only [Act.put, List.setIfInBounds_toArray, List.set_cons_zero, List.set_cons_succ]
        refine held_take 13 (some 6) (v := ?_) rfl rfl (by kernel_rfl) (by kernel_rfl) (by kernel_rfl) (fun _ _ _ h => h) hH (Or.inl ⟨by kernel_rfl, ?_⟩) ?_
        rotate_left
        · (intro x _; go_simp; try with_reducible rfl)
        rotate_right
        try simp only [Act.put, List.setIfInBounds_toArray, List.set_cons_zero, List.set_cons_succ]
        refine wpAnyH_done (by kernel_rfl) ?_ _
        have hend := HW.out _ (KK.out _ _ HX5.out hH)
        go_wp2
        go_ret
        exact ⟨rfl, hend⟩
end Go.Proofs.Ytmmgbnjfbapmcaa
