/- Patches compared. The walk of PlanesCuts. No condition. -/
import Derived.Test.YtmmgbnjfbapmcaaPcutn
namespace Go.Proofs.Ytmmgbnjfbapmcaa
open Go.RowKit

theorem arr_cells : Try.prog.cellsOf 35 = 64 := by kernel_rfl
theorem arr_info : ∃ i, Try.prog.info? 35 = some i ∧ i.size = 64 := by
  have h : (Try.prog.info? 35).map (·.size) = some 64 := by kernel_rfl
  cases hq : Try.prog.info? 35 with
  | none => simp [hq] at h
  | some i => exact ⟨i, rfl, by simpa [hq] using h⟩
theorem pt_extract (f : Nat → Int) {i : Nat} (h : i < 6) : (arn 384 f).extract (i * 64) (i * 64 + 64) = arrA fun j => f (i * 64 + j) := by
  apply Array.ext_getElem?
  intro q
  rw [Array.getElem?_extract, arn_size]
  by_cases hq : q < 64
  · rw [if_pos (by omega), arn_at f (show i * 64 + q < 384 by omega), arrA_at _ hq]
  · rw [if_neg (by omega), Array.getElem?_eq_none (by rw [arrA_size]; omega)]
theorem run_part_arr (A : Array Value) (o : Nat) (w : World) : (part 35 A o).run Try.prog w = .ok (.agg (A.extract o (o + 64))) w := by
  obtain ⟨j, hj, hs⟩ := arr_info
  simp [part, isAgg, run_underlying Try.underlying35, sizeOf, typeInfo, hj, hs]
theorem arr_self (d : Nat) (g : Nat → Int) (w : World) : (Op.equalIn (d + 2) 35 (.agg (arrA g)) (.agg (arrA g))).run Try.prog w = .ok true w := by
  obtain ⟨j, hj⟩ := int_info
  have e : ((List.range 64).all fun i => g i == g i) = true := by simp
  have h := run_equalIn_array (P := Try.prog) w (d + 1) (arrA g) (arrA g) Try.underlying35 hj
  have h2 := eq_items d g g w (List.range 64) fun i hi => List.mem_range.1 hi
  rw [e] at h2
  exact h.trans h2
theorem pt_items (d : Nat) (A : Array Value) (w : World) (hE : ∀ g : Nat → Int, (Op.equalIn (d + 1) 35 (.agg (arrA g)) (.agg (arrA g))).run Try.prog w = .ok true w) : ∀ is : List Nat, (∀ i ∈ is, ∃ g, A.extract (i * 64) (i * 64 + 64) = arrA g) → (Op.eqItems (d + 1) 35 64 A A is).run Try.prog w = .ok true w
  | [], _ => by simp [Op.eqItems]
  | i :: is, h => by
    obtain ⟨g, hg⟩ := h i List.mem_cons_self
    have p1 := run_part_arr A (i * 64) w
    rw [hg] at p1
    have p3 := hE g
    have ih := pt_items d A w hE is fun k hk => h k (List.mem_cons_of_mem _ hk)
    generalize arrA g = Z at p1 p3
    unfold Op.eqItems
    rw [Sem.run_bind, p1, Result.andThen_ok, Sem.run_bind, p1, Result.andThen_ok, Sem.run_bind, p3, Result.andThen_ok, if_neg (by simp)]
    exact ih
theorem pt_self (A : Array Value) (h : ∀ i, i < 6 → ∃ g, A.extract (i * 64) (i * 64 + 64) = arrA g) (w : World) : (Op.equalIn 10000 37 (.agg A) (.agg A)).run Try.prog w = .ok true w := by
  obtain ⟨j, hj, _⟩ := arr_info
  have h1 := run_equalIn_array (P := Try.prog) w 9999 A A Try.underlying37 hj
  have h2 := pt_items 9998 A w (fun g => arr_self 9997 g w) (List.range 6) fun i hi => h i (List.mem_range.1 hi)
  rw [← arr_cells] at h2
  exact h1.trans h2
theorem pt_equal (f : Nat → Int) (w : World) : (Op.equalIn 10000 37 (.agg (arn 384 f)) (.agg (arn 384 f))).run Try.prog w = .ok true w := pt_self (arn 384 f) (fun _ hi => ⟨_, pt_extract f hi⟩) w

set_option maxRecDepth 1000000 in
set_option maxHeartbeats 8000000 in
theorem planesCuts_walk (k : Int) (v : Nat → Value) (n : Nat → Nat) (f : Nat → Nat → Int) (m : Int) (w : World) (_ : (Lit.int .i64 k).wf = true) (h : FrAt w v n f) (_ : ∀ p, p < 3 → n p ≤ maxLen) (_ : (Lit.int .i64 m).wf = true) :
    Calls Try.prog 4 #[.agg (frA k v), .int .i64 m] w fun e w' => e = .returned (.bool true) ∧ Below w.heap.size w w' := by
  obtain ⟨B, hB⟩ : ∃ B, w.heap.size = B := ⟨_, rfl⟩
  obtain ⟨wB, hwB⟩ : ∃ wB, w.alloc (.cells (frA k v) 25 (0, 0)) = wB := ⟨_, rfl⟩
  have hC0 : wB.heap[B]? = some (frO 25 k v) := by rw [← hwB, ← hB]; exact heap_alloc_new w _
  have hbC : Below B w wB := by rw [← hwB, ← hB]; exact (Below.refl _ w).alloc (Nat.le_refl _) _
  have hzB : wB.heap.size = B + 1 := by rw [← hwB, ← hB]; simp
  have hw : ∀ x, Below (B + 1) wB x → Below w.heap.size w x := fun x hx => by rw [hB]; exact hbC.trans (hx.mono (by omega))
  have K : ∀ (x y : World), Below (B + 1) wB x → Below x.heap.size x y → Below (B + 1) wB y := fun x y hx hy => hx.trans (hy.mono (by have := hx.size; omega))
  have HX0 := Lib.hid (fun (x : World) (hx : Below (B + 1) wB x) => ((hx.block B (by omega)).trans hC0 : x.heap[B]? = some (.cells (frA k v) 25 (0, 0))))
  have HK := Lib.hid (fun (x : World) (hx : Below (B + 1) wB x) => fr_cell0 (T := 25) (v := v) ((hx.block B (by omega)).trans hC0))
  have L1 := Lib.hid (fun (x : World) (hx : Below (B + 1) wB x) => ((light_code k v n x h.slices).mono fun e y h => ⟨h.1, K x y hx h.2⟩ : Calls Try.prog 7 #[.agg (frA k v)] x fun e y => e = .returned (.bool (lightF n)) ∧ Below (B + 1) wB y))
  have CR := Lib.hid (fun (x : World) => frright_page k v n x h.slices)
  have CM := Lib.hid (fun (x : World) => many_page k x)
  have CL := Lib.hid (fun (x : World) (hx : Below (B + 1) wB x) => ((lives17 x).mono fun e y h => ⟨h.1, K x y hx h.2⟩ : Calls Try.prog 8 #[] x fun e y => e = .returned (.bool true) ∧ Below (B + 1) wB y))
  have hS0 : Below (B + 1) wB wB := Below.refl _ _
  have HSX := fr_sized fr_size k v
  have HW := Lib.hid hw
  have KK := Lib.hid K
  have HWB := Lib.hid hwB
  have HB := Lib.hid hB
  have h00 := HX0.out wB hS0
  have hPz := pt_zero
  have HY0 := pt_equal fun _ => 0
  have HS0 := pt_sized fun _ => 0
  have HO0 := arn_one 384 fun _ => 0
  have HZ0 : (arn 384 fun _ => 0).size = 384 := arn_size _ _
  cases hl : lightF n with
  | false =>
    rw [hl] at L1
    generalize frA k v = X at *
    generalize (arn 384 fun _ => 0) = Y at *
    clear hw K hwB hB h hbC hC0 hzB HY0 HS0 HO0 HZ0
    go_enter Try.func4, Try.ntmps4
    go_wp2_with (rw [HWB.out, HB.out]; with_reducible refine wpList_load_row rfl 25 _ rfl B rfl 25 X (0, 0) _ h00 Try.underlying25 rfl HSX ?_)
    refine (L1.out _ hS0).mono ?_
    rintro e x ⟨rfl, hx⟩
    go_wp2_with fail
    refine (CL.out _ hx).mono ?_
    rintro e x2 ⟨rfl, hx2⟩
    go_wp2
    go_ret
    exact ⟨rfl, HW.out _ hx2⟩
  | true =>
  rw [hl] at L1
  cases hn : (rightF k n && hasC k m) with
  | false =>
    have C1 := Lib.hid (fun (x : World) (hx : Below (B + 1) wB x) => ((cut_none k v n m x h.slices hn).mono fun e y h => ⟨h.1, K x y hx h.2⟩ : Calls Try.prog 16 #[.agg (frA k v), .int .i64 m] x fun e y => e = .returned (.tuple #[.agg (arn 384 fun _ => 0), .int .i64 1]) ∧ Below (B + 1) wB y))
    have hcase : rightF k n = false ∨ (rightF k n = true ∧ m < 0) ∨ (rightF k n = true ∧ 0 ≤ m ∧ (cells k : Int) ≤ m) := by
      cases hr : rightF k n with
      | false => exact .inl rfl
      | true =>
        rw [hr] at hn
        have hc : ¬ (0 ≤ m ∧ m.toNat < cells k) := fun h => by rw [hasC_iff.2 h] at hn; cases hn
        by_cases h0 : m < 0
        · exact .inr (.inl ⟨rfl, h0⟩)
        · exact .inr (.inr ⟨rfl, by omega, by omega⟩)
    generalize frA k v = X at *
    generalize (arn 384 fun _ => 0) = Y at *
    clear hw K hwB hB h hbC hC0 hzB hn
    have hyy : Y.size = Y.size := rfl
    go_enter Try.func4, Try.ntmps4
    go_wp2_with (rw [HWB.out, HB.out]; with_reducible refine wpList_load_row rfl 25 _ rfl B rfl 25 X (0, 0) _ h00 Try.underlying25 rfl HSX ?_)
    refine (L1.out _ hS0).mono ?_
    rintro e x ⟨rfl, hx⟩
    have h01 := HX0.out x hx
    go_wp2_with (with_reducible refine wpList_load_row rfl 25 _ rfl B rfl 25 X (0, 0) _ h01 Try.underlying25 rfl HSX ?_)
    refine (C1.out _ hx).mono ?_
    rintro e x3 ⟨rfl, hx3⟩
    obtain ⟨w4, hw4⟩ : ∃ w4, x3.alloc (.cells Y 37 (0, 0)) = w4 := ⟨_, rfl⟩
    have hb4 : Below x3.heap.size x3 w4 := by rw [← hw4]; exact (Below.refl _ x3).alloc (Nat.le_refl _) _
    have H4 := Lib.hid (show w4.heap[x3.heap.size]? = some (.cells Y 37 (0, 0)) by rw [← hw4]; exact heap_alloc_new x3 _)
    have hz4 : w4.heap.size = x3.heap.size + 1 := by rw [← hw4]; simp
    have hx4 := KK.out _ _ hx3 hb4
    have h04 := HX0.out w4 hx4
    have HW4 := Lib.hid hw4
    clear hw4 hb4 hx h01 hx3
    go_wp2_with (first | (with_reducible refine wp_store_fresh rfl 37 _ _ rfl Y Y 37 rfl rfl HS0 rfl HO0 ?_; rw [HW4.out]) | (with_reducible refine wpList_load_row rfl 25 _ rfl B rfl 25 X (0, 0) _ h04 Try.underlying25 rfl HSX ?_))
    rcases hcase with hr | ⟨hr, hm0⟩ | ⟨hr, hm0, hm1⟩
    case _ =>
      rw [hr] at CR
      refine (CR.out _).mono ?_
      rintro e x5 ⟨rfl, hb5⟩
      have h5 := (hb5.block x3.heap.size (by omega)).trans H4.out
      have hx5 := KK.out _ _ hx4 hb5
      go_wp2_with (with_reducible refine wpList_load_row rfl 37 _ rfl x3.heap.size rfl 37 Y (0, 0) _ h5 Try.underlying37 rfl HS0 ?_)
      refine (CL.out _ hx5).mono ?_
      rintro e x7 ⟨rfl, hx7⟩
      go_wp2
      go_ret
      exact ⟨rfl, HW.out _ hx7⟩
    case _ =>
      rw [hr] at CR
      have t1 : decide (m < 0) = true := decide_eq_true hm0
      refine (CR.out _).mono ?_
      rintro e x5 ⟨rfl, hb5⟩
      have h5 := (hb5.block x3.heap.size (by omega)).trans H4.out
      have hx5 := KK.out _ _ hx4 hb5
      go_wp2_with (with_reducible refine wpList_load_row rfl 37 _ rfl x3.heap.size rfl 37 Y (0, 0) _ h5 Try.underlying37 rfl HS0 ?_)
      refine (CL.out _ hx5).mono ?_
      rintro e x7 ⟨rfl, hx7⟩
      go_wp2
      go_ret
      exact ⟨rfl, HW.out _ hx7⟩
    case _ =>
      rw [hr] at CR
      have t1 : decide (m < 0) = false := decide_eq_false (by omega)
      have t2 : decide ((cells k : Int) ≤ m) = true := decide_eq_true hm1
      refine (CR.out _).mono ?_
      rintro e x4 ⟨rfl, hb4⟩
      have hx4' := KK.out _ _ hx4 hb4
      have ck := HK.out _ hx4'
      go_wp2_with fail
      refine (CM.out _).mono ?_
      rintro e x5 ⟨rfl, hb5⟩
      have h5 := (hb5.block x3.heap.size (by have := hb4.size; omega)).trans ((hb4.block x3.heap.size (by omega)).trans H4.out)
      have hx5 := KK.out _ _ hx4' hb5
      go_wp2_with (with_reducible refine wpList_load_row rfl 37 _ rfl x3.heap.size rfl 37 Y (0, 0) _ h5 Try.underlying37 rfl HS0 ?_)
      refine (CL.out _ hx5).mono ?_
      rintro e x7 ⟨rfl, hx7⟩
      go_wp2
      go_ret
      exact ⟨rfl, HW.out _ hx7⟩
  | true =>
    have hr : rightF k n = true := (Bool.and_eq_true _ _ ▸ hn).1
    have hc := hasC_iff.1 (Bool.and_eq_true _ _ ▸ hn).2
    obtain ⟨q, rfl⟩ : ∃ q : Nat, m = (q : Int) := ⟨m.toNat, by omega⟩
    have hq : q < cells k := by simpa using hc.2
    have C1 := Lib.hid (fun (x : World) (hx : Below (B + 1) wB x) => ((cut_code k v n f q x (h.below (hw x hx)) hr hq).mono fun e y h => ⟨h.1, K x y hx h.2⟩ : Calls Try.prog 16 #[.agg (frA k v), .int .i64 (q : Int)] x fun e y => e = .returned (.tuple #[.agg (arn 384 (cutF k q f)), .int .i64 0]) ∧ Below (B + 1) wB y))
    have C2 := Lib.hid (fun (x : World) (hx : Below (B + 1) wB x) => cut_page k v n f q x (h.below (hw x hx)) hr hq)
    rw [hr] at CR
    have t1 : decide ((q : Int) < 0) = false := decide_eq_false (by omega)
    have t2 : decide (cells k ≤ q) = false := decide_eq_false (by omega)
    have HY1 := pt_equal (cutF k q f)
    have HS1 := pt_sized (cutF k q f)
    have HO1 := arn_one 384 (cutF k q f)
    have HZ1 : (arn 384 (cutF k q f)).size = 384 := arn_size _ _
    generalize frA k v = X at *
    generalize (arn 384 fun _ => 0) = Y at *
    generalize arn 384 (cutF k q f) = V at *
    have HYV : Y.size = V.size := by rw [HZ0, HZ1]
    clear hw K hwB hB h hbC hC0 hzB hn hr hc hq
    go_enter Try.func4, Try.ntmps4
    go_wp2_with (rw [HWB.out, HB.out]; with_reducible refine wpList_load_row rfl 25 _ rfl B rfl 25 X (0, 0) _ h00 Try.underlying25 rfl HSX ?_)
    refine (L1.out _ hS0).mono ?_
    rintro e x ⟨rfl, hx⟩
    have h01 := HX0.out x hx
    go_wp2_with (with_reducible refine wpList_load_row rfl 25 _ rfl B rfl 25 X (0, 0) _ h01 Try.underlying25 rfl HSX ?_)
    refine (C1.out _ hx).mono ?_
    rintro e x3 ⟨rfl, hx3⟩
    obtain ⟨w4, hw4⟩ : ∃ w4, x3.alloc (.cells V 37 (0, 0)) = w4 := ⟨_, rfl⟩
    have hb4 : Below x3.heap.size x3 w4 := by rw [← hw4]; exact (Below.refl _ x3).alloc (Nat.le_refl _) _
    have H4 := Lib.hid (show w4.heap[x3.heap.size]? = some (.cells V 37 (0, 0)) by rw [← hw4]; exact heap_alloc_new x3 _)
    have hz4 : w4.heap.size = x3.heap.size + 1 := by rw [← hw4]; simp
    have hx4 := KK.out _ _ hx3 hb4
    have h04 := HX0.out w4 hx4
    have HW4 := Lib.hid hw4
    clear hw4 hb4 hx h01 hx3
    go_wp2_with (first | (with_reducible refine wp_store_fresh rfl 37 _ _ rfl V Y 37 rfl rfl HS1 HYV HO1 ?_; rw [HW4.out]) | (with_reducible refine wpList_load_row rfl 25 _ rfl B rfl 25 X (0, 0) _ h04 Try.underlying25 rfl HSX ?_))
    refine (CR.out _).mono ?_
    rintro e x4 ⟨rfl, hb4⟩
    have hx4' := KK.out _ _ hx4 hb4
    have ck := HK.out _ hx4'
    go_wp2_with fail
    refine (CM.out _).mono ?_
    rintro e x5 ⟨rfl, hb5⟩
    have h5 := (hb5.block x3.heap.size (by have := hb4.size; omega)).trans ((hb4.block x3.heap.size (by omega)).trans H4.out)
    have hx5 := KK.out _ _ hx4' hb5
    have hz5 : x3.heap.size < x5.heap.size := by have := hb4.size; have := hb5.size; omega
    have HS5 := Lib.hid (fun (x : World) (hx : Below x5.heap.size x5 x) => KK.out _ _ hx5 hx)
    have HP5 := Lib.hid (fun (x : World) (hx : Below x5.heap.size x5 x) => ((hx.block x3.heap.size hz5).trans h5 : x.heap[x3.heap.size]? = some (.cells V 37 (0, 0))))
    have HF5 := Lib.hid (fun (x : World) (hx : Below x5.heap.size x5 x) => HX0.out x (HS5.out x hx))
    have D1 := Lib.hid (fun (x : World) (hx : Below x5.heap.size x5 x) => ((C2.out x (HS5.out x hx)).mono fun e y h => ⟨h.1, hx.trans (h.2.mono hx.size)⟩ : Calls Try.prog 17 #[.agg X, .int .i64 (q : Int)] x fun e y => e = .returned (.agg V) ∧ Below x5.heap.size x5 y))
    have D2 := Lib.hid (fun (x : World) (hx : Below x5.heap.size x5 x) => ((lives17 x).mono fun e y h => ⟨h.1, hx.trans (h.2.mono hx.size)⟩ : Calls Try.prog 8 #[] x fun e y => e = .returned (.bool true) ∧ Below x5.heap.size x5 y))
    clear hb4 hb5 h5 ck h04 hx4 hx4'
    go_wp2
    refine wp_region_calm (S := fun x => Below x5.heap.size x5 x) 13 (by kernel_rfl) (by kernel_rfl) (Below.refl _ _).drew ?_
    simp only [List.take_succ_cons, List.take_zero, List.drop_succ_cons, List.drop_zero]
    refine calm_load 37 _ x3.heap.size 37 V (0, 0) _ (by kernel_rfl) rfl rfl (fun x hx => HP5.out x hx) Try.underlying37 rfl HS1 ?_
    simp only [Act.put, List.setIfInBounds_toArray, List.set_cons_zero, List.set_cons_succ]
    refine calm_load 25 _ B 25 X (0, 0) _ (by kernel_rfl) rfl rfl (fun x hx => HF5.out x hx) Try.underlying25 rfl HSX ?_
    simp only [Act.put, List.setIfInBounds_toArray, List.set_cons_zero, List.set_cons_succ]
    refine calm_value (v := ?v2) (by kernel_rfl) ?m ?_; (case m => (intro x _; go_simp; try with_reducible rfl))
    simp only [Act.put, List.setIfInBounds_toArray, List.set_cons_zero, List.set_cons_succ]
    refine calm_call (by kernel_rfl) D1.out (fun _ => by kernel_rfl) ?_
    simp only [Act.put, List.setIfInBounds_toArray, List.set_cons_zero, List.set_cons_succ]
    refine calm_value (v := ?v4) (by kernel_rfl) ?m ?_; (case m => (intro x _; go_simp; try with_reducible rfl))
    simp only [Act.put, List.setIfInBounds_toArray, List.set_cons_zero, List.set_cons_succ]
    refine calm_value (v := ?v5) (by kernel_rfl) ?m ?_; (case m => (intro x _; go_simp; try with_reducible rfl))
    simp only [Act.put, List.setIfInBounds_toArray, List.set_cons_zero, List.set_cons_succ]
    refine calm_value (v := ?v6) (by kernel_rfl) ?m ?_; (case m => (intro x _; go_simp; try with_reducible rfl))
    simp only [Act.put, List.setIfInBounds_toArray, List.set_cons_zero, List.set_cons_succ]
    refine calm_value (v := ?v7) (by kernel_rfl) ?m ?_; (case m => (intro x _; go_simp; try with_reducible rfl))
    simp only [Act.put, List.setIfInBounds_toArray, List.set_cons_zero, List.set_cons_succ]
    refine calm_value (v := ?v8) (by kernel_rfl) ?m ?_; (case m => (intro x _; go_simp; try with_reducible rfl))
    simp only [Act.put, List.setIfInBounds_toArray, List.set_cons_zero, List.set_cons_succ]
    refine calm_value (v := ?v9) (by kernel_rfl) ?m ?_; (case m => (intro x _; go_simp; try with_reducible rfl))
    simp only [Act.put, List.setIfInBounds_toArray, List.set_cons_zero, List.set_cons_succ]
    refine calm_call (by kernel_rfl) D2.out (fun _ => by kernel_rfl) ?_
    simp only [Act.put, List.setIfInBounds_toArray, List.set_cons_zero, List.set_cons_succ]
    refine calm_value (v := ?v11) (by kernel_rfl) ?m ?_; (case m => (intro x _; go_simp; try with_reducible rfl))
    simp only [Act.put, List.setIfInBounds_toArray, List.set_cons_zero, List.set_cons_succ]
    refine calm_value (v := ?v12) (by kernel_rfl) ?m ?_; (case m => (intro x _; go_simp; try with_reducible rfl))
    simp only [Act.put, List.setIfInBounds_toArray, List.set_cons_zero, List.set_cons_succ]
    refine calm_nil fun x hx => ?_
    have hend := HW.out _ (HS5.out _ hx)
    go_wp2
    go_ret
    exact ⟨rfl, hend⟩
end Go.Proofs.Ytmmgbnjfbapmcaa
