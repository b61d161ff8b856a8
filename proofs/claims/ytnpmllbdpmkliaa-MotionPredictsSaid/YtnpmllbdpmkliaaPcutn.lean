/- Where there is no cell to cut; a cell's patch, by the document. No condition. -/
import Derived.Test.YtnpmllbdpmkliaaPcut
namespace Go.Proofs.Ytnpmllbdpmkliaa
open Go.RowKit Go.Lib

set_option maxRecDepth 1000000 in
set_option maxHeartbeats 8000000 in
theorem cut_none (k : Int) (v : Nat → Value) (n : Nat → Nat) (m : Int) (w : World) (h : ∀ p, p < 3 → ∃ a c, v p = .slice a (n p) c) (hno : (rightF k n && hasC k m) = false) :
    Calls Try.prog 17 #[.agg (frA k v), .int .i64 m] w fun e w' => e = .returned (.tuple #[.agg (arn 384 fun _ => 0), .int .i64 1]) ∧ Below w.heap.size w w' := by
  obtain ⟨B, wA, wB, wC, hB, hwA, hwB, hwC, hzA, hzB, hzC, hC0, hC1, hC2, hbC⟩ := laid3 w (.cells (frA k v) 29 (0, 0)) (.cells (arn 384 fun _ => 0) 33 (0, 0)) (.cells (arn 384 fun _ => 0) 33 (0, 0))
  have c1 := frright_code k v n wC h
  have c2 := fun w => hascell_code k m w
  have hz0 := pt_zero
  have HSX := fr_sized fr_size k v
  have HSY := pt_sized fun _ => 0
  have HOY := arn_one 384 fun _ => 0
  obtain ⟨X, hX⟩ : ∃ X, frA k v = X := ⟨_, rfl⟩
  have hC0' : wC.heap[B]? = some (.cells X 29 (0, 0)) := by rw [← hX]; exact hC0
  have hf0 : wC.heap[B]? = some (frO 29 k v) := hC0
  rw [hX] at c1 hwA HSX ⊢
  generalize (arn 384 fun _ => 0) = Y at *
  have HF0 := Lib.hid hf0
  have HX := Lib.hid hX
  have HWA := Lib.hid hwA
  have HWB := Lib.hid hwB
  have HWC := Lib.hid hwC
  have HB := Lib.hid hB
  clear hX hwA hwB hwC hB h hf0 hC0
  cases hr : rightF k n with
  | false =>
    rw [hr] at c1
    clear hno hr c2
    go_enter Try.func17, Try.ntmps17
    go_wp2_with (rw [HWA.out, HB.out, HWB.out, HWC.out]; with_reducible refine wpList_load_row rfl 29 _ rfl B rfl 29 X (0, 0) _ hC0' Try.underlying29 rfl HSX ?_)
    refine c1.mono ?_
    rintro e w1 ⟨rfl, hb1⟩
    have h11 := (hb1.block (B + 1) (by omega)).trans hC1
    have h12 := (hb1.block (B + 2) (by omega)).trans hC2
    have hbw := hbC.trans (hb1.mono (by omega))
    have hz1 : B + 3 ≤ w1.heap.size := by have := hb1.size; omega
    clear hb1 hbC hC0' hC1 hC2 hzA hzB hzC c1
    go_wp2_with (first | (with_reducible refine wpList_load_row rfl 33 _ rfl (B + 2) rfl 33 Y (0, 0) _ h12 Try.underlying33 rfl HSY ?_) | (with_reducible refine wp_store_arr rfl 33 _ _ rfl (B + 1) Y Y rfl rfl 33 h11 HSY rfl HOY ?_; intro w2 hh2 hg2))
    refine bodyPost_ret (results_pair rfl _ _ (B + 1) 33 _ (0, 0) _ rfl hh2 Try.underlying33 rfl HSY) rfl ?_
    exact ⟨rfl, by rw [HB.out]; exact hbw.grown hg2 (by omega) (fun k hk => by injection hk with hk; omega)⟩
  | true =>
    rw [hr] at c1
    have hc : hasC k m = false := by rw [hr] at hno; exact hno
    rw [hc] at c2
    clear hno hr hc
    go_enter Try.func17, Try.ntmps17
    go_wp2_with (rw [HWA.out, HB.out, HWB.out, HWC.out]; with_reducible refine wpList_load_row rfl 29 _ rfl B rfl 29 X (0, 0) _ hC0' Try.underlying29 rfl HSX ?_)
    refine c1.mono ?_
    rintro e w1 ⟨rfl, hb1⟩
    have ck := fr_cell0 ((hb1.block B (by omega)).trans HF0.out)
    have h11 := (hb1.block (B + 1) (by omega)).trans hC1
    have h12 := (hb1.block (B + 2) (by omega)).trans hC2
    have hbw := hbC.trans (hb1.mono (by omega))
    have hz1 : B + 3 ≤ w1.heap.size := by have := hb1.size; omega
    clear hb1 hbC hC0' hC1 hC2 hzA hzB hzC c1
    go_wp2_with (first | (with_reducible refine (c2 _).mono ?_; rintro e x ⟨rfl, rfl⟩) | (with_reducible refine wpList_load_row rfl 33 _ rfl (B + 2) rfl 33 Y (0, 0) _ h12 Try.underlying33 rfl HSY ?_) | (with_reducible refine wp_store_arr rfl 33 _ _ rfl (B + 1) Y Y rfl rfl 33 h11 HSY rfl HOY ?_; intro w2 hh2 hg2))
    refine bodyPost_ret (results_pair rfl _ _ (B + 1) 33 _ (0, 0) _ rfl hh2 Try.underlying33 rfl HSY) rfl ?_
    exact ⟨rfl, by rw [HB.out]; exact hbw.grown hg2 (by omega) (fun k hk => by injection hk with hk; omega)⟩
/-- A frame's sample, by the document. -/
theorem at_frame (k : Int) (v : Nat → Value) (n : Nat → Nat) (f : Nat → Nat → Int) (m b i : Nat) (w : World) (h : FrAt w v n f) (hr : rightF k n = true) (hm : m < cells k) (hb : b < 6) (hi : i < 64) :
    Calls Try.prog 44 #[.agg (frA k v), .int .i64 (plc b : Int), .int .i64 ((8 * col k m b + i % 8 : Nat) : Int), .int .i64 ((8 * lin k m b + i / 8 : Nat) : Int)] w fun e w' => e = .returned (.int .i64 (f (plc b) (pos k m b i))) ∧ Below w.heap.size w w' := by
  have hP := plc_most hb
  have hN := (rightF_iff.1 hr).2 _ hP
  have hs := siz_most k (plc b)
  have hp := pos_in hm hb hi
  have e := pos_page k m b i
  have c := at_page k v (n (plc b)) (plc b) (8 * col k m b + i % 8) (8 * lin k m b + i / 8) (f (plc b)) w hP (h _ hP) (by rw [hN]; omega) (by rw [hN, e]; exact hp)
  rw [e] at c
  exact c
end Go.Proofs.Ytnpmllbdpmkliaa
