/- What may not be predicted, by the code. No condition. -/
import Derived.Test.YtnpmllbdpmkliaaVin
namespace Go.Proofs.Ytnpmllbdpmkliaa
open Go.RowKit Go.Lib

set_option maxRecDepth 1000000 in
set_option maxHeartbeats 8000000 in
/-- No right frame, no such cell; or no vector for it. -/
theorem pred_none (k : Int) (v : Nat → Value) (n : Nat → Nat) (m a b : Int) (w : World) (h : ∀ p, p < 3 → ∃ a c, v p = .slice a (n p) c) (hno : (rightF k n && mayV k m a b) = false) :
    Calls Try.prog 12 #[.agg (frA k v), .int .i64 m, .agg (twoA a b)] w fun e w' => e = .returned (.tuple #[.agg (arn 384 fun _ => 0), .int .i64 (if rightF k n && hasC k m then 8 else 1)]) ∧ Below w.heap.size w w' := by
  obtain ⟨B, wA, wB, wC, wD, hB, hwA, hwB, hwC, hwD, hzA, hzB, hzC, hzD, hD0, hD1, hD2, hD3, hbD⟩ := laid4 w (.cells (frA k v) 29 (0, 0)) (.cells (twoA a b) 22 (0, 0)) (.cells (arn 384 fun _ => 0) 33 (0, 0)) (.cells (arn 384 fun _ => 0) 33 (0, 0))
  have cR := frright_code k v n wD h
  have cH := fun w => hasm_code k m w
  have cM := fun w => may_code k m a b w
  have hzp := pt_zero
  have HSX := fr_sized fr_size k v
  have HS2 := two_sized a b
  have HYS : (arn 384 fun _ => 0).size = 384 := arn_size _ _
  have HSY := pt_sized fun _ => 0
  have HOY := arn_one 384 fun _ => 0
  obtain ⟨X, hX⟩ : ∃ X, frA k v = X := ⟨_, rfl⟩
  have hD0' : wD.heap[B]? = some (.cells X 29 (0, 0)) := by rw [← hX]; exact hD0
  replace hD0 : wD.heap[B]? = some (frO 29 k v) := hD0
  rw [hX] at cR hwA HSX ⊢
  obtain ⟨Y, hY⟩ : ∃ Y, (arn 384 fun _ => 0) = Y := ⟨_, rfl⟩
  rw [hY] at hwC hwD hzp HYS hD2 hD3 HSY HOY ⊢
  obtain ⟨Z, hZ⟩ : ∃ Z, twoA a b = Z := ⟨_, rfl⟩
  rw [hZ] at hwB HS2 hD1 cM ⊢
  have HYY : Y.size = Y.size := rfl
  have HX := Lib.hid hX
  have HY := Lib.hid hY
  have HZ := Lib.hid hZ
  have HWA := Lib.hid hwA
  have HWB := Lib.hid hwB
  have HWC := Lib.hid hwC
  have HWD := Lib.hid hwD
  have HB := Lib.hid hB
  clear hX hY hZ hwA hwB hwC hwD hB h
  cases hr : rightF k n with
  | false =>
    rw [hr] at cR
    go_enter Try.func12, Try.ntmps12
    go_wp2_with (rw [HWA.out, HB.out, HWB.out, HWC.out, HWD.out]; with_reducible refine wpList_load_row rfl 29 _ rfl B rfl 29 X (0, 0) _ hD0' Try.underlying29 rfl HSX ?_)
    refine cR.mono ?_
    rintro e w1 ⟨rfl, hb1⟩
    have h2 := (hb1.block (B + 2) (by omega)).trans hD2
    have h3 := (hb1.block (B + 3) (by omega)).trans hD3
    have hbw := hbD.trans (hb1.mono (by omega))
    go_wp2_with (first | (with_reducible refine wpList_load_row rfl 33 _ rfl (B + 3) rfl 33 Y (0, 0) _ h3 Try.underlying33 rfl HSY ?_) | (with_reducible refine wp_store_arr rfl 33 _ _ rfl (B + 2) Y Y rfl rfl 33 h2 HSY rfl HOY ?_; intro w4 hh4 hg4))
    refine bodyPost_ret (results_pair rfl _ _ (B + 2) 33 _ (0, 0) _ rfl hh4 Try.underlying33 rfl HSY) rfl ?_
    exact ⟨by rfl, by rw [HB.out]; exact hbw.grown hg4 (by have := hb1.size; omega) (fun k hk => by injection hk with hk; omega)⟩
  | true =>
    rw [hr] at cR hno
    rw [Bool.true_and] at hno
    have hz4 : B + 4 ≤ wD.heap.size := by omega
    cases hc : hasC k m with
    | false =>
      rw [hc] at cH
      go_enter Try.func12, Try.ntmps12
      go_wp2_with (rw [HWA.out, HB.out, HWB.out, HWC.out, HWD.out]; with_reducible refine wpList_load_row rfl 29 _ rfl B rfl 29 X (0, 0) _ hD0' Try.underlying29 rfl HSX ?_)
      refine cR.mono ?_
      rintro e w1 ⟨rfl, hb1⟩
      have h0 := (hb1.block B (by omega)).trans hD0
      have h2 := (hb1.block (B + 2) (by omega)).trans hD2
      have h3 := (hb1.block (B + 3) (by omega)).trans hD3
      have hbw := hbD.trans (hb1.mono (by omega))
      have ck := fr_cell0 h0
      go_wp2_with (first | (with_reducible refine (cH _).mono ?_; rintro e x ⟨rfl, rfl⟩) | (with_reducible refine wpList_load_row rfl 33 _ rfl (B + 3) rfl 33 Y (0, 0) _ h3 Try.underlying33 rfl HSY ?_) | (with_reducible refine wp_store_arr rfl 33 _ _ rfl (B + 2) Y Y rfl rfl 33 h2 HSY rfl HOY ?_; intro w4 hh4 hg4))
      refine bodyPost_ret (results_pair rfl _ _ (B + 2) 33 _ (0, 0) _ rfl hh4 Try.underlying33 rfl HSY) rfl ?_
      exact ⟨by rfl, by rw [HB.out]; exact hbw.grown hg4 (by have := hb1.size; omega) (fun k hk => by injection hk with hk; omega)⟩
    | true =>
      rw [hc] at cH
      rw [hno] at cM
      go_enter Try.func12, Try.ntmps12
      go_wp2_with (rw [HWA.out, HB.out, HWB.out, HWC.out, HWD.out]; with_reducible refine wpList_load_row rfl 29 _ rfl B rfl 29 X (0, 0) _ hD0' Try.underlying29 rfl HSX ?_)
      refine cR.mono ?_
      rintro e w1 ⟨rfl, hb1⟩
      have h0 := (hb1.block B (by omega)).trans hD0
      have h1 := (hb1.block (B + 1) (by omega)).trans hD1
      have h2 := (hb1.block (B + 2) (by omega)).trans hD2
      have h3 := (hb1.block (B + 3) (by omega)).trans hD3
      have hbw := hbD.trans (hb1.mono (by omega))
      have hz1 : B + 4 ≤ w1.heap.size := by have := hb1.size; omega
      have ck := fr_cell0 h0
      go_wp2_with (first | (with_reducible refine (cH _).mono ?_; rintro e x ⟨rfl, rfl⟩) | (with_reducible refine wpList_load_row rfl 22 _ rfl (B + 1) rfl 22 Z (0, 0) _ h1 Try.underlying22 rfl HS2 ?_))
      refine (cM _).mono ?_
      rintro e w2 ⟨rfl, hb2⟩
      have k2 := (hb2.block (B + 2) (by omega)).trans h2
      have k3 := (hb2.block (B + 3) (by omega)).trans h3
      have kb := hbw.trans (hb2.mono (by omega))
      have kz : B + 4 ≤ w2.heap.size := Nat.le_trans hz1 hb2.size
      clear h0 h1 h2 h3 hb1 hb2 hbw ck
      go_wp2_with (first | (with_reducible refine wpList_load_row rfl 33 _ rfl (B + 3) rfl 33 Y (0, 0) _ k3 Try.underlying33 rfl HSY ?_) | (with_reducible refine wp_store_arr rfl 33 _ _ rfl (B + 2) Y Y rfl rfl 33 k2 HSY rfl HOY ?_; intro w4 hh4 hg4))
      refine bodyPost_ret (results_pair rfl _ _ (B + 2) 33 _ (0, 0) _ rfl hh4 Try.underlying33 rfl HSY) rfl ?_
      exact ⟨by rfl, by rw [HB.out]; exact kb.grown hg4 (by omega) (fun k hk => by injection hk with hk; omega)⟩
end Go.Proofs.Ytnpmllbdpmkliaa
