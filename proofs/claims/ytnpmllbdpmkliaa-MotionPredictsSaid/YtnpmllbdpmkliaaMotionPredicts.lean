/- What any cell is predicted as, out of any frame, by any vector, is what the document says, or what is wrong. No condition. -/
import Derived.Test.YtnpmllbdpmkliaaRows
import Derived.Test.YtnpmllbdpmkliaaPclaw
import Derived.Test.YtnpmllbdpmkliaaVpred
import Derived.Test.YtnpmllbdpmkliaaVpredn
import Derived.Test.YtnpmllbdpmkliaaVpage
import Derived.Test.YtnpmllbdpmkliaaVmay
import Derived.Test.YtnpmllbdpmkliaaLaws
import Derived.ProofKit
namespace Go.Proofs.Ytnpmllbdpmkliaa
open Go.ChangeShapes Go.WideShapes Go.ChangeAt Go.RowKit

set_option maxRecDepth 1000000 in
set_option maxHeartbeats 8000000 in
theorem motionPredicts_walk (k : Int) (v : Nat → Value) (n : Nat → Nat) (f : Nat → Nat → Int) (m a b : Int) (w : World) (_ : (Lit.int .i64 k).wf = true) (h : FrAt w v n f) (_ : ∀ p, p < 3 → n p ≤ maxLen) (_ : (Lit.int .i64 m).wf = true) (_ : (Lit.int .i64 a).wf = true) (_ : (Lit.int .i64 b).wf = true) :
    Calls Try.prog 4 #[.agg (frA k v), .int .i64 m, .agg #[.int .i64 a, .int .i64 b]] w fun e w' => e = .returned (.bool true) ∧ Below w.heap.size w w' := by
  show Calls Try.prog 4 #[.agg (frA k v), .int .i64 m, .agg (twoA a b)] w fun e w' => e = .returned (.bool true) ∧ Below w.heap.size w w'
  obtain ⟨B, wA, wB, hB, hwA, hwB, hzA, hzB, hC0, hC1, hbC⟩ := laid2 w (.cells (frA k v) 29 (0, 0)) (.cells (twoA a b) 22 (0, 0))
  have hw : ∀ x, Below (B + 2) wB x → Below w.heap.size w x := fun x hx => by rw [hB]; exact hbC.trans (hx.mono (by omega))
  have K : ∀ (x y : World), Below (B + 2) wB x → Below x.heap.size x y → Below (B + 2) wB y := fun x y hx hy => hx.trans (hy.mono (by have := hx.size; omega))
  have HX0 := Lib.hid (fun (x : World) (hx : Below (B + 2) wB x) => ((hx.block B (by omega)).trans hC0 : x.heap[B]? = some (.cells (frA k v) 29 (0, 0))))
  have HX1 := Lib.hid (fun (x : World) (hx : Below (B + 2) wB x) => ((hx.block (B + 1) (by omega)).trans hC1 : x.heap[B + 1]? = some (.cells (twoA a b) 22 (0, 0))))
  have HK := Lib.hid (fun (x : World) (hx : Below (B + 2) wB x) => fr_cell0 (T := 29) (v := v) ((hx.block B (by omega)).trans hC0))
  have L1 := Lib.hid (fun (x : World) (hx : Below (B + 2) wB x) => ((light_code k v n x h.slices).mono fun e y h => ⟨h.1, K x y hx h.2⟩ : Calls Try.prog 11 #[.agg (frA k v)] x fun e y => e = .returned (.bool (lightF n)) ∧ Below (B + 2) wB y))
  have CR := Lib.hid (fun (x : World) => frright_page k v n x h.slices)
  have CM := Lib.hid (fun (x : World) => many_page k x)
  have CY := Lib.hid (fun (x : World) => may_page k m a b x)
  have CL := Lib.hid (fun (x : World) (hx : Below (B + 2) wB x) => ((lives18 x).mono fun e y h => ⟨h.1, K x y hx h.2⟩ : Calls Try.prog 10 #[] x fun e y => e = .returned (.bool true) ∧ Below (B + 2) wB y))
  have hS0 : Below (B + 2) wB wB := Below.refl _ _
  have HSX := fr_sized fr_size k v
  have HS2 := two_sized a b
  have HW := Lib.hid hw
  have KK := Lib.hid K
  have HWA := Lib.hid hwA
  have HWB := Lib.hid hwB
  have HB := Lib.hid hB
  have h00 := HX0.out wB hS0
  have hPz := pt_zero
  have HY0 := pt_equal fun _ => 0
  have HS0 := pt_sized fun _ => 0
  have HO0 := arn_one 384 fun _ => 0
  have HZ0 : (arn 384 fun _ => 0).size = 384 := arn_size _ _
  cases hl : lightF n with
  | false =>
    rw [hl] at L1
    generalize frA k v = X at *
    generalize (arn 384 fun _ => 0) = Y at *
    generalize twoA a b = Z at *
    clear hw K hwA hwB hB h hbC hC0 hC1 hzA hzB HY0 HS0 HO0 HZ0
    go_enter Try.func4, Try.ntmps4
    go_wp2_with (rw [HWA.out, HB.out, HWB.out]; with_reducible refine wpList_load_row rfl 29 _ rfl B rfl 29 X (0, 0) _ h00 Try.underlying29 rfl HSX ?_)
    refine (L1.out _ hS0).mono ?_
    rintro e x ⟨rfl, hx⟩
    go_wp2_with fail
    refine (CL.out _ hx).mono ?_
    rintro e x2 ⟨rfl, hx2⟩
    go_wp2
    go_ret
    exact ⟨rfl, HW.out _ hx2⟩
  | true =>
  rw [hl] at L1
  cases hn : (rightF k n && mayV k m a b) with
  | false =>
    have C1 := Lib.hid (fun (x : World) (hx : Below (B + 2) wB x) => ((pred_none k v n m a b x h.slices hn).mono fun e y h => ⟨h.1, K x y hx h.2⟩ : Calls Try.prog 12 #[.agg (frA k v), .int .i64 m, .agg (twoA a b)] x fun e y => e = .returned (.tuple #[.agg (arn 384 fun _ => 0), .int .i64 (if rightF k n && hasC k m then 8 else 1)]) ∧ Below (B + 2) wB y))
    have hcase : rightF k n = false ∨ (rightF k n = true ∧ hasC k m = false ∧ m < 0) ∨ (rightF k n = true ∧ hasC k m = false ∧ 0 ≤ m ∧ (cells k : Int) ≤ m) ∨ (rightF k n = true ∧ hasC k m = true ∧ mayV k m a b = false) := by
      cases hr : rightF k n with
      | false => exact .inl rfl
      | true =>
        rw [hr, Bool.true_and] at hn
        cases hc : hasC k m with
        | true => exact .inr (.inr (.inr ⟨rfl, rfl, hn⟩))
        | false =>
          have hc2 : ¬ (0 ≤ m ∧ m.toNat < cells k) := fun h => by rw [hasC_iff.2 h] at hc; cases hc
          by_cases h0 : m < 0
          · exact .inr (.inl ⟨rfl, rfl, h0⟩)
          · exact .inr (.inr (.inl ⟨rfl, rfl, by omega, by omega⟩))
    have hcell := Lib.hid (fun (h : hasC k m = true) => hasC_iff.1 h)
    generalize frA k v = X at *
    generalize (arn 384 fun _ => 0) = Y at *
    generalize twoA a b = Z at *
    clear hw K hwA hwB hB h hbC hC0 hC1 hzA hzB hn
    have hyy : Y.size = Y.size := rfl
    rcases hcase with hr | ⟨hr, hc, hm0⟩ | ⟨hr, hc, hm0, hm1⟩ | ⟨hr, hc, hy⟩
    case _ =>
      rw [hr] at CR C1
      rw [Bool.false_and] at C1
      replace C1 := Lib.hid (show ∀ (x : World), Below (B + 2) wB x → Calls Try.prog 12 #[.agg X, .int .i64 m, .agg Z] x fun e y => e = .returned (.tuple #[.agg Y, .int .i64 1]) ∧ Below (B + 2) wB y from C1.out)
      go_enter Try.func4, Try.ntmps4
      go_wp2_with (rw [HWA.out, HB.out, HWB.out]; with_reducible refine wpList_load_row rfl 29 _ rfl B rfl 29 X (0, 0) _ h00 Try.underlying29 rfl HSX ?_)
      refine (L1.out _ hS0).mono ?_
      rintro e x ⟨rfl, hx⟩
      have h01 := HX0.out x hx
      have h02 := HX1.out x hx
      go_wp2_with (first | (with_reducible refine wpList_load_row rfl 29 _ rfl B rfl 29 X (0, 0) _ h01 Try.underlying29 rfl HSX ?_) | (with_reducible refine wpList_load_row rfl 22 _ rfl (B + 1) rfl 22 Z (0, 0) _ h02 Try.underlying22 rfl HS2 ?_))
      refine (C1.out _ hx).mono ?_
      rintro e x3 ⟨rfl, hx3⟩
      obtain ⟨w4, hw4⟩ : ∃ w4, x3.alloc (.cells Y 33 (0, 0)) = w4 := ⟨_, rfl⟩
      have hb4 : Below x3.heap.size x3 w4 := by rw [← hw4]; exact (Below.refl _ x3).alloc (Nat.le_refl _) _
      have H4 := Lib.hid (show w4.heap[x3.heap.size]? = some (.cells Y 33 (0, 0)) by rw [← hw4]; exact heap_alloc_new x3 _)
      have hz4 : w4.heap.size = x3.heap.size + 1 := by rw [← hw4]; simp
      have hx4 := KK.out _ _ hx3 hb4
      have h04 := HX0.out w4 hx4
      have HW4 := Lib.hid hw4
      clear hw4 hb4 hx h01 h02 hx3
      go_wp2_with (first | (with_reducible refine wp_store_fresh rfl 33 _ _ rfl Y Y 33 rfl rfl HS0 rfl HO0 ?_; rw [HW4.out]) | (with_reducible refine wpList_load_row rfl 29 _ rfl B rfl 29 X (0, 0) _ h04 Try.underlying29 rfl HSX ?_))
      refine (CR.out _).mono ?_
      rintro e x5 ⟨rfl, hb5⟩
      have h5 := (hb5.block x3.heap.size (by omega)).trans H4.out
      have hx5 := KK.out _ _ hx4 hb5
      go_wp2_with (with_reducible refine wpList_load_row rfl 33 _ rfl x3.heap.size rfl 33 Y (0, 0) _ h5 Try.underlying33 rfl HS0 ?_)
      refine (CL.out _ hx5).mono ?_
      rintro e x7 ⟨rfl, hx7⟩
      go_wp2
      go_ret
      exact ⟨rfl, HW.out _ hx7⟩
    case _ =>
      rw [hr] at CR C1
      rw [hc] at C1
      replace C1 := Lib.hid (show ∀ (x : World), Below (B + 2) wB x → Calls Try.prog 12 #[.agg X, .int .i64 m, .agg Z] x fun e y => e = .returned (.tuple #[.agg Y, .int .i64 1]) ∧ Below (B + 2) wB y from C1.out)
      have t1 : decide (m < 0) = true := decide_eq_true hm0
      go_enter Try.func4, Try.ntmps4
      go_wp2_with (rw [HWA.out, HB.out, HWB.out]; with_reducible refine wpList_load_row rfl 29 _ rfl B rfl 29 X (0, 0) _ h00 Try.underlying29 rfl HSX ?_)
      refine (L1.out _ hS0).mono ?_
      rintro e x ⟨rfl, hx⟩
      have h01 := HX0.out x hx
      have h02 := HX1.out x hx
      go_wp2_with (first | (with_reducible refine wpList_load_row rfl 29 _ rfl B rfl 29 X (0, 0) _ h01 Try.underlying29 rfl HSX ?_) | (with_reducible refine wpList_load_row rfl 22 _ rfl (B + 1) rfl 22 Z (0, 0) _ h02 Try.underlying22 rfl HS2 ?_))
      refine (C1.out _ hx).mono ?_
      rintro e x3 ⟨rfl, hx3⟩
      obtain ⟨w4, hw4⟩ : ∃ w4, x3.alloc (.cells Y 33 (0, 0)) = w4 := ⟨_, rfl⟩
      have hb4 : Below x3.heap.size x3 w4 := by rw [← hw4]; exact (Below.refl _ x3).alloc (Nat.le_refl _) _
      have H4 := Lib.hid (show w4.heap[x3.heap.size]? = some (.cells Y 33 (0, 0)) by rw [← hw4]; exact heap_alloc_new x3 _)
      have hz4 : w4.heap.size = x3.heap.size + 1 := by rw [← hw4]; simp
      have hx4 := KK.out _ _ hx3 hb4
      have h04 := HX0.out w4 hx4
      have HW4 := Lib.hid hw4
      clear hw4 hb4 hx h01 h02 hx3
      go_wp2_with (first | (with_reducible refine wp_store_fresh rfl 33 _ _ rfl Y Y 33 rfl rfl HS0 rfl HO0 ?_; rw [HW4.out]) | (with_reducible refine wpList_load_row rfl 29 _ rfl B rfl 29 X (0, 0) _ h04 Try.underlying29 rfl HSX ?_))
      refine (CR.out _).mono ?_
      rintro e x5 ⟨rfl, hb5⟩
      have h5 := (hb5.block x3.heap.size (by omega)).trans H4.out
      have hx5 := KK.out _ _ hx4 hb5
      go_wp2_with (with_reducible refine wpList_load_row rfl 33 _ rfl x3.heap.size rfl 33 Y (0, 0) _ h5 Try.underlying33 rfl HS0 ?_)
      refine (CL.out _ hx5).mono ?_
      rintro e x7 ⟨rfl, hx7⟩
      go_wp2
      go_ret
      exact ⟨rfl, HW.out _ hx7⟩
    case _ =>
      rw [hr] at CR C1
      rw [hc] at C1
      replace C1 := Lib.hid (show ∀ (x : World), Below (B + 2) wB x → Calls Try.prog 12 #[.agg X, .int .i64 m, .agg Z] x fun e y => e = .returned (.tuple #[.agg Y, .int .i64 1]) ∧ Below (B + 2) wB y from C1.out)
      have t1 : decide (m < 0) = false := decide_eq_false (by omega)
      have t2 : decide ((cells k : Int) ≤ m) = true := decide_eq_true hm1
      go_enter Try.func4, Try.ntmps4
      go_wp2_with (rw [HWA.out, HB.out, HWB.out]; with_reducible refine wpList_load_row rfl 29 _ rfl B rfl 29 X (0, 0) _ h00 Try.underlying29 rfl HSX ?_)
      refine (L1.out _ hS0).mono ?_
      rintro e x ⟨rfl, hx⟩
      have h01 := HX0.out x hx
      have h02 := HX1.out x hx
      go_wp2_with (first | (with_reducible refine wpList_load_row rfl 29 _ rfl B rfl 29 X (0, 0) _ h01 Try.underlying29 rfl HSX ?_) | (with_reducible refine wpList_load_row rfl 22 _ rfl (B + 1) rfl 22 Z (0, 0) _ h02 Try.underlying22 rfl HS2 ?_))
      refine (C1.out _ hx).mono ?_
      rintro e x3 ⟨rfl, hx3⟩
      obtain ⟨w4, hw4⟩ : ∃ w4, x3.alloc (.cells Y 33 (0, 0)) = w4 := ⟨_, rfl⟩
      have hb4 : Below x3.heap.size x3 w4 := by rw [← hw4]; exact (Below.refl _ x3).alloc (Nat.le_refl _) _
      have H4 := Lib.hid (show w4.heap[x3.heap.size]? = some (.cells Y 33 (0, 0)) by rw [← hw4]; exact heap_alloc_new x3 _)
      have hz4 : w4.heap.size = x3.heap.size + 1 := by rw [← hw4]; simp
      have hx4 := KK.out _ _ hx3 hb4
      have h04 := HX0.out w4 hx4
      have HW4 := Lib.hid hw4
      clear hw4 hb4 hx h01 h02 hx3
      go_wp2_with (first | (with_reducible refine wp_store_fresh rfl 33 _ _ rfl Y Y 33 rfl rfl HS0 rfl HO0 ?_; rw [HW4.out]) | (with_reducible refine wpList_load_row rfl 29 _ rfl B rfl 29 X (0, 0) _ h04 Try.underlying29 rfl HSX ?_))
      refine (CR.out _).mono ?_
      rintro e x4 ⟨rfl, hb4⟩
      have hx4' := KK.out _ _ hx4 hb4
      have ck := HK.out _ hx4'
      go_wp2_with fail
      refine (CM.out _).mono ?_
      rintro e x5 ⟨rfl, hb5⟩
      have h5 := (hb5.block x3.heap.size (by have := hb4.size; omega)).trans ((hb4.block x3.heap.size (by omega)).trans H4.out)
      have hx5 := KK.out _ _ hx4' hb5
      go_wp2_with (with_reducible refine wpList_load_row rfl 33 _ rfl x3.heap.size rfl 33 Y (0, 0) _ h5 Try.underlying33 rfl HS0 ?_)
      refine (CL.out _ hx5).mono ?_
      rintro e x7 ⟨rfl, hx7⟩
      go_wp2
      go_ret
      exact ⟨rfl, HW.out _ hx7⟩
    case _ =>
      rw [hr] at CR C1
      rw [hc] at C1
      rw [hy] at CY
      replace C1 := Lib.hid (show ∀ (x : World), Below (B + 2) wB x → Calls Try.prog 12 #[.agg X, .int .i64 m, .agg Z] x fun e y => e = .returned (.tuple #[.agg Y, .int .i64 8]) ∧ Below (B + 2) wB y from C1.out)
      obtain ⟨hm0, hm1⟩ := hcell.out hc
      have t1 : decide (m < 0) = false := decide_eq_false (by omega)
      have t2 : decide ((cells k : Int) ≤ m) = false := decide_eq_false (by omega)
      clear hm0 hm1
      go_enter Try.func4, Try.ntmps4
      go_wp2_with (rw [HWA.out, HB.out, HWB.out]; with_reducible refine wpList_load_row rfl 29 _ rfl B rfl 29 X (0, 0) _ h00 Try.underlying29 rfl HSX ?_)
      refine (L1.out _ hS0).mono ?_
      rintro e x ⟨rfl, hx⟩
      have h01 := HX0.out x hx
      have h02 := HX1.out x hx
      go_wp2_with (first | (with_reducible refine wpList_load_row rfl 29 _ rfl B rfl 29 X (0, 0) _ h01 Try.underlying29 rfl HSX ?_) | (with_reducible refine wpList_load_row rfl 22 _ rfl (B + 1) rfl 22 Z (0, 0) _ h02 Try.underlying22 rfl HS2 ?_))
      refine (C1.out _ hx).mono ?_
      rintro e x3 ⟨rfl, hx3⟩
      obtain ⟨w4, hw4⟩ : ∃ w4, x3.alloc (.cells Y 33 (0, 0)) = w4 := ⟨_, rfl⟩
      have hb4 : Below x3.heap.size x3 w4 := by rw [← hw4]; exact (Below.refl _ x3).alloc (Nat.le_refl _) _
      have H4 := Lib.hid (show w4.heap[x3.heap.size]? = some (.cells Y 33 (0, 0)) by rw [← hw4]; exact heap_alloc_new x3 _)
      have hz4 : w4.heap.size = x3.heap.size + 1 := by rw [← hw4]; simp
      have hx4 := KK.out _ _ hx3 hb4
      have h04 := HX0.out w4 hx4
      have HW4 := Lib.hid hw4
      clear hw4 hb4 hx h01 h02 hx3
      go_wp2_with (first | (with_reducible refine wp_store_fresh rfl 33 _ _ rfl Y Y 33 rfl rfl HS0 rfl HO0 ?_; rw [HW4.out]) | (with_reducible refine wpList_load_row rfl 29 _ rfl B rfl 29 X (0, 0) _ h04 Try.underlying29 rfl HSX ?_))
      refine (CR.out _).mono ?_
      rintro e x4 ⟨rfl, hb4⟩
      have hx4' := KK.out _ _ hx4 hb4
      have ck := HK.out _ hx4'
      go_wp2_with fail
      refine (CM.out _).mono ?_
      rintro e x5 ⟨rfl, hb5⟩
      have hx5' := KK.out _ _ hx4' hb5
      have ck5 := HK.out _ hx5'
      have h06 := HX1.out x5 hx5'
      have h5' := (hb5.block x3.heap.size (by have := hb4.size; omega)).trans ((hb4.block x3.heap.size (by omega)).trans H4.out)
      have hz5 : x3.heap.size < x5.heap.size := by have := hb4.size; have := hb5.size; omega
      clear ck
      go_wp2_with (with_reducible refine wpList_load_row rfl 22 _ rfl (B + 1) rfl 22 Z (0, 0) _ h06 Try.underlying22 rfl HS2 ?_)
      refine (CY.out _).mono ?_
      rintro e x6 ⟨rfl, hb6⟩
      have h5 := (hb6.block x3.heap.size hz5).trans h5'
      have hx5 := KK.out _ _ hx5' hb6
      go_wp2_with (with_reducible refine wpList_load_row rfl 33 _ rfl x3.heap.size rfl 33 Y (0, 0) _ h5 Try.underlying33 rfl HS0 ?_)
      refine (CL.out _ hx5).mono ?_
      rintro e x7 ⟨rfl, hx7⟩
      go_wp2
      go_ret
      exact ⟨rfl, HW.out _ hx7⟩
  | true =>
    have hr : rightF k n = true := (Bool.and_eq_true _ _ ▸ hn).1
    have hy : mayV k m a b = true := (Bool.and_eq_true _ _ ▸ hn).2
    obtain ⟨hc1, -, -⟩ := mayV_iff.1 hy
    obtain ⟨q, rfl⟩ : ∃ q : Nat, m = (q : Int) := ⟨m.toNat, by omega⟩
    have hq : q < cells k := by simpa using hc1.2
    have C1 := Lib.hid (fun (x : World) (hx : Below (B + 2) wB x) => ((pred_code k v n f q a b x (h.below (hw x hx)) hr hq hy).mono fun e y h => ⟨h.1, K x y hx h.2⟩ : Calls Try.prog 12 #[.agg (frA k v), .int .i64 (q : Int), .agg (twoA a b)] x fun e y => e = .returned (.tuple #[.agg (arn 384 (predF k q f a b)), .int .i64 0]) ∧ Below (B + 2) wB y))
    have C2 := Lib.hid (fun (x : World) (hx : Below (B + 2) wB x) => pred_page k v n f q a b x (h.below (hw x hx)) hr hq hy)
    rw [hr] at CR
    rw [hy] at CY
    have t1 : decide ((q : Int) < 0) = false := decide_eq_false (by omega)
    have t2 : decide (cells k ≤ q) = false := decide_eq_false (by omega)
    have HY1 := pt_equal (predF k q f a b)
    have HS1 := pt_sized (predF k q f a b)
    have HO1 := arn_one 384 (predF k q f a b)
    have HZ1 : (arn 384 (predF k q f a b)).size = 384 := arn_size _ _
    generalize frA k v = X at *
    generalize (arn 384 fun _ => 0) = Y at *
    generalize arn 384 (predF k q f a b) = V at *
    generalize twoA a b = Z at *
    have HYV : Y.size = V.size := by rw [HZ0, HZ1]
    clear hw K hwA hwB hB h hbC hC0 hC1 hzA hzB hn hr hy hc1 hq
    go_enter Try.func4, Try.ntmps4
    go_wp2_with (rw [HWA.out, HB.out, HWB.out]; with_reducible refine wpList_load_row rfl 29 _ rfl B rfl 29 X (0, 0) _ h00 Try.underlying29 rfl HSX ?_)
    refine (L1.out _ hS0).mono ?_
    rintro e x ⟨rfl, hx⟩
    have h01 := HX0.out x hx
    have h02 := HX1.out x hx
    go_wp2_with (first | (with_reducible refine wpList_load_row rfl 29 _ rfl B rfl 29 X (0, 0) _ h01 Try.underlying29 rfl HSX ?_) | (with_reducible refine wpList_load_row rfl 22 _ rfl (B + 1) rfl 22 Z (0, 0) _ h02 Try.underlying22 rfl HS2 ?_))
    refine (C1.out _ hx).mono ?_
    rintro e x3 ⟨rfl, hx3⟩
    obtain ⟨w4, hw4⟩ : ∃ w4, x3.alloc (.cells V 33 (0, 0)) = w4 := ⟨_, rfl⟩
    have hb4 : Below x3.heap.size x3 w4 := by rw [← hw4]; exact (Below.refl _ x3).alloc (Nat.le_refl _) _
    have H4 := Lib.hid (show w4.heap[x3.heap.size]? = some (.cells V 33 (0, 0)) by rw [← hw4]; exact heap_alloc_new x3 _)
    have hz4 : w4.heap.size = x3.heap.size + 1 := by rw [← hw4]; simp
    have hx4 := KK.out _ _ hx3 hb4
    have h04 := HX0.out w4 hx4
    have HW4 := Lib.hid hw4
    clear hw4 hb4 hx h01 h02 hx3
    go_wp2_with (first | (with_reducible refine wp_store_fresh rfl 33 _ _ rfl V Y 33 rfl rfl HS1 HYV HO1 ?_; rw [HW4.out]) | (with_reducible refine wpList_load_row rfl 29 _ rfl B rfl 29 X (0, 0) _ h04 Try.underlying29 rfl HSX ?_))
    refine (CR.out _).mono ?_
    rintro e x4 ⟨rfl, hb4⟩
    have hx4' := KK.out _ _ hx4 hb4
    have ck := HK.out _ hx4'
    go_wp2_with fail
    refine (CM.out _).mono ?_
    rintro e x5 ⟨rfl, hb5⟩
    have hx5' := KK.out _ _ hx4' hb5
    have ck5 := HK.out _ hx5'
    have h06 := HX1.out x5 hx5'
    have h5' := (hb5.block x3.heap.size (by have := hb4.size; omega)).trans ((hb4.block x3.heap.size (by omega)).trans H4.out)
    have hz5' : x3.heap.size < x5.heap.size := by have := hb4.size; have := hb5.size; omega
    clear ck
    go_wp2_with (with_reducible refine wpList_load_row rfl 22 _ rfl (B + 1) rfl 22 Z (0, 0) _ h06 Try.underlying22 rfl HS2 ?_)
    refine (CY.out _).mono ?_
    rintro e x6 ⟨rfl, hb6⟩
    have h5 := (hb6.block x3.heap.size hz5').trans h5'
    have hx5 := KK.out _ _ hx5' hb6
    have hz5 : x3.heap.size < x6.heap.size := by have := hb6.size; omega
    have HS5 := Lib.hid (fun (x : World) (hx : Below x6.heap.size x6 x) => KK.out _ _ hx5 hx)
    have HP5 := Lib.hid (fun (x : World) (hx : Below x6.heap.size x6 x) => ((hx.block x3.heap.size hz5).trans h5 : x.heap[x3.heap.size]? = some (.cells V 33 (0, 0))))
    have HF5 := Lib.hid (fun (x : World) (hx : Below x6.heap.size x6 x) => HX0.out x (HS5.out x hx))
    have HM5 := Lib.hid (fun (x : World) (hx : Below x6.heap.size x6 x) => HX1.out x (HS5.out x hx))
    have D1 := Lib.hid (fun (x : World) (hx : Below x6.heap.size x6 x) => ((C2.out x (HS5.out x hx)).mono fun e y h => ⟨h.1, hx.trans (h.2.mono hx.size)⟩ : Calls Try.prog 15 #[.agg X, .int .i64 (q : Int), .agg Z] x fun e y => e = .returned (.agg V) ∧ Below x6.heap.size x6 y))
    have D2 := Lib.hid (fun (x : World) (hx : Below x6.heap.size x6 x) => ((lives18 x).mono fun e y h => ⟨h.1, hx.trans (h.2.mono hx.size)⟩ : Calls Try.prog 10 #[] x fun e y => e = .returned (.bool true) ∧ Below x6.heap.size x6 y))
    clear hb4 hb5 hb6 h5 h5' ck5 h04 h06 hx4 hx4' hx5'
    go_wp2
    refine wp_region_calm (S := fun x => Below x6.heap.size x6 x) 14 (by kernel_rfl) (by kernel_rfl) (Below.refl _ _).drew ?_
    simp only [List.take_succ_cons, List.take_zero, List.drop_succ_cons, List.drop_zero]
    refine calm_load 33 _ x3.heap.size 33 V (0, 0) _ (by kernel_rfl) rfl rfl (fun x hx => HP5.out x hx) Try.underlying33 rfl HS1 ?_
    simp only [Act.put, List.setIfInBounds_toArray, List.set_cons_zero, List.set_cons_succ]
    refine calm_load 29 _ B 29 X (0, 0) _ (by kernel_rfl) rfl rfl (fun x hx => HF5.out x hx) Try.underlying29 rfl HSX ?_
    simp only [Act.put, List.setIfInBounds_toArray, List.set_cons_zero, List.set_cons_succ]
    refine calm_value (v := ?v2) (by kernel_rfl) ?m ?_; (case m => (intro x _; go_simp; try with_reducible rfl))
    simp only [Act.put, List.setIfInBounds_toArray, List.set_cons_zero, List.set_cons_succ]
    refine calm_load 22 _ (B + 1) 22 Z (0, 0) _ (by kernel_rfl) rfl rfl (fun x hx => HM5.out x hx) Try.underlying22 rfl HS2 ?_
    simp only [Act.put, List.setIfInBounds_toArray, List.set_cons_zero, List.set_cons_succ]
    refine calm_call (by kernel_rfl) D1.out (fun _ => by kernel_rfl) ?_
    simp only [Act.put, List.setIfInBounds_toArray, List.set_cons_zero, List.set_cons_succ]
    refine calm_value (v := ?v5) (by kernel_rfl) ?m ?_; (case m => (intro x _; go_simp; try with_reducible rfl))
    simp only [Act.put, List.setIfInBounds_toArray, List.set_cons_zero, List.set_cons_succ]
    refine calm_value (v := ?v6) (by kernel_rfl) ?m ?_; (case m => (intro x _; go_simp; try with_reducible rfl))
    simp only [Act.put, List.setIfInBounds_toArray, List.set_cons_zero, List.set_cons_succ]
    refine calm_value (v := ?v7) (by kernel_rfl) ?m ?_; (case m => (intro x _; go_simp; try with_reducible rfl))
    simp only [Act.put, List.setIfInBounds_toArray, List.set_cons_zero, List.set_cons_succ]
    refine calm_value (v := ?v8) (by kernel_rfl) ?m ?_; (case m => (intro x _; go_simp; try with_reducible rfl))
    simp only [Act.put, List.setIfInBounds_toArray, List.set_cons_zero, List.set_cons_succ]
    refine calm_value (v := ?v9) (by kernel_rfl) ?m ?_; (case m => (intro x _; go_simp; try with_reducible rfl))
    simp only [Act.put, List.setIfInBounds_toArray, List.set_cons_zero, List.set_cons_succ]
    refine calm_value (v := ?v10) (by kernel_rfl) ?m ?_; (case m => (intro x _; go_simp; try with_reducible rfl))
    simp only [Act.put, List.setIfInBounds_toArray, List.set_cons_zero, List.set_cons_succ]
    refine calm_call (by kernel_rfl) D2.out (fun _ => by kernel_rfl) ?_
    simp only [Act.put, List.setIfInBounds_toArray, List.set_cons_zero, List.set_cons_succ]
    refine calm_value (v := ?v12) (by kernel_rfl) ?m ?_; (case m => (intro x _; go_simp; try with_reducible rfl))
    simp only [Act.put, List.setIfInBounds_toArray, List.set_cons_zero, List.set_cons_succ]
    refine calm_value (v := ?v13) (by kernel_rfl) ?m ?_; (case m => (intro x _; go_simp; try with_reducible rfl))
    simp only [Act.put, List.setIfInBounds_toArray, List.set_cons_zero, List.set_cons_succ]
    refine calm_nil fun x hx => ?_
    have hend := HW.out _ (HS5.out _ hx)
    go_wp2
    go_ret
    exact ⟨rfl, hend⟩

theorem motionPredicts_own : ownKnob Try.prog.godebug = none := by kernel_rfl
theorem motionPredicts_laid : laidOutB Try.prog = true := by kernel_rfl
theorem motionPredicts_reads : Try.f4.params.toList.all (fun t => Try.prog.readableRec t && decide (t < Try.prog.types.size)) = true := by kernel_rfl

set_option maxRecDepth 100000 in
theorem motionPredicts_lifted (os : Os) (started : os.Started) (H : Type) (enc : TypeId × Value → H) :
    ReturnsInHanded {} Try.checked os 4 .any (Rows.motionPredictsSpec.pre6 enc Try.prog Try.f4 Rows.motionPredictsRow.domain false) (Rows.motionPredictsSpec.post enc Try.prog Try.f4 false true false false) := by
  refine returnsInHanded_of_change (C := Try.checked) motionPredicts_own started (by kernel_rfl) Try.func4
    (ChangeSpec.witness6 (enc := enc) (C := Try.checked) false ⟨#[], #[.agg (frA 0 nilV), .int .i64 0, .agg #[.int .i64 0, .int .i64 0]], []⟩ 8 (by kernel_rfl) (by kernel_rfl) (by kernel_rfl) (by kernel_rfl)) ?_
  intro W base args ds gs before hval0 hW hcnd _
  have hval : ∀ (j : Nat) t v, Try.f4.params[j]? = some t → args[j]? = some v → Value.okWide Try.prog W .any base t v := hval0
  have hW' := hW
  obtain ⟨p, q, hA0, hV, rfl, hfz, hnd⟩ := hW
  have hA : DataW.TrodAll enc Try.prog W 0 (fun _ => true) true Try.f4.params.toList args.toList ds p := hA0
  rw [Try.params4] at hA hval
  obtain ⟨v0, vs0, d0, ds0, p0, q0, hargs, rfl, rfl, h0, r0⟩ := trodAll_cons hA
  obtain ⟨v1, vs1, d1, ds1, p1, q1, rfl, rfl, rfl, h1, r1⟩ := trodAll_cons r0
  obtain ⟨v2, vs2, d2, ds2, p2, q2, rfl, rfl, rfl, h2, r2⟩ := trodAll_cons r1
  obtain ⟨rfl, rfl, rfl⟩ := trodAll_nil r2
  obtain rfl : args = #[v0, v1, v2] := by cases args; simp_all
  obtain ⟨rfl, rfl⟩ := trodVars_none hV
  obtain ⟨a0, v0', n0, f0, rfl, w0, x0, y0⟩ := open_frame Try.underlying29 Try.underlying3 Try.underlying27 Try.underlying26 Try.underlying5 rfl rfl rfl rfl (by kernel_rfl) (by kernel_rfl) (by kernel_rfl) (by kernel_rfl) (by kernel_rfl) (hval 0 29 v0 rfl rfl) h0
  obtain ⟨a1, rfl, rfl, rfl, w1⟩ := open_int Try.underlying3 (hval 1 3 v1 rfl rfl) h1
  obtain ⟨a2, b2, rfl, w2, x2⟩ := open_two Try.underlying22 Try.underlying3 (by kernel_rfl) (by kernel_rfl) (hval 2 22 v2 rfl rfl) h2
  clear hA0 hval0
  refine (motionPredicts_walk a0 v0' n0 f0 a1 a2 b2 W w0 x0 y0 w1 w2 x2).mono fun e W' ⟨he, hb⟩ => ?_
  subst he
  exact ⟨_, rfl, law_end motionPredicts_laid motionPredicts_reads rfl Try.underlying4 rfl hW' rfl hb⟩

theorem motionPredicts_over : Rows.motionPredictsRow.holds Try.pinned (OpenSpec.ofChange Rows.motionPredictsSpec) :=
  OpenClaim.holds_of_wide 4 Try.f4 rfl rfl rfl rfl rfl rfl rfl ⟨rfl, rfl, rfl, rfl, rfl⟩ rfl rfl rfl rfl rfl (by kernel_rfl) Try.func4 (by kernel_rfl)
    (of_decide_eq_true (by kernel_rfl)) (by unfold Func.isWrapper; first | (rw [if_pos (by decide +kernel)]; kernel_rfl) | (rw [if_neg (by decide +kernel)]; exact ⟨rfl, rfl⟩))
    (fun os started H enc _ => motionPredicts_lifted os started H enc)

theorem motionPredicts_holds : Rows.MotionPredictsSaid :=
  motionPredicts_over
#print axioms motionPredicts_holds
end Go.Proofs.Ytnpmllbdpmkliaa
