/- Where there is no cell to cut; a cell's patch, by the document. No condition. -/
import Derived.Test.YtmmgbnjfbapmcaaPcut
namespace Go.Proofs.Ytmmgbnjfbapmcaa
open Go.RowKit Go.Lib

set_option maxRecDepth 1000000 in
set_option maxHeartbeats 8000000 in
theorem cut_none (k : Int) (v : Nat → Value) (n : Nat → Nat) (m : Int) (w : World) (h : ∀ p, p < 3 → ∃ a c, v p = .slice a (n p) c) (hno : (rightF k n && hasC k m) = false) :
    Calls Try.prog 16 #[.agg (frA k v), .int .i64 m] w fun e w' => e = .returned (.tuple #[.agg (arn 384 fun _ => 0), .int .i64 1]) ∧ Below w.heap.size w w' := by
  obtain ⟨B, wA, wB, wC, hB, hwA, hwB, hwC, hzA, hzB, hzC, hC0, hC1, hC2, hbC⟩ := laid3 w (.cells (frA k v) 25 (0, 0)) (.cells (arn 384 fun _ => 0) 37 (0, 0)) (.cells (arn 384 fun _ => 0) 37 (0, 0))
  have c1 := frright_code k v n wC h
  have c2 := fun w => hascell_code k m w
  have hz0 := pt_zero
  have HSX := fr_sized fr_size k v
  have HSY := pt_sized fun _ => 0
  have HOY := arn_one 384 fun _ => 0
  obtain ⟨X, hX⟩ : ∃ X, frA k v = X := ⟨_, rfl⟩
  have hC0' : wC.heap[B]? = some (.cells X 25 (0, 0)) := by rw [← hX]; exact hC0
  have hf0 : wC.heap[B]? = some (frO 25 k v) := hC0
  rw [hX] at c1 hwA HSX ⊢
  generalize (arn 384 fun _ => 0) = Y at *
  have HF0 := Lib.hid hf0
  have HX := Lib.hid hX
  have HWA := Lib.hid hwA
  have HWB := Lib.hid hwB
  have HWC := Lib.hid hwC
  have HB := Lib.hid hB
  clear hX hwA hwB hwC hB h hf0 hC0
  cases hr : rightF k n with
  | false =>
    rw [hr] at c1
    clear hno hr c2
    go_enter Try.func16, Try.ntmps16
    go_wp2_with (rw [HWA.out, HB.out, HWB.out, HWC.out]; with_reducible refine wpList_load_row rfl 25 _ rfl B rfl 25 X (0, 0) _ hC0' Try.underlying25 rfl HSX ?_)
    refine c1.mono ?_
    rintro e w1 ⟨rfl, hb1⟩
    have h11 := (hb1.block (B + 1) (by omega)).trans hC1
    have h12 := (hb1.block (B + 2) (by omega)).trans hC2
    have hbw := hbC.trans (hb1.mono (by omega))
    have hz1 : B + 3 ≤ w1.heap.size := by have := hb1.size; omega
    clear hb1 hbC hC0' hC1 hC2 hzA hzB hzC c1
    go_wp2_with (first | (with_reducible refine wpList_load_row rfl 37 _ rfl (B + 2) rfl 37 Y (0, 0) _ h12 Try.underlying37 rfl HSY ?_) | (with_reducible refine wp_store_arr rfl 37 _ _ rfl (B + 1) Y Y rfl rfl 37 h11 HSY rfl HOY ?_; intro w2 hh2 hg2))
    refine bodyPost_ret (results_pair rfl _ _ (B + 1) 37 _ (0, 0) _ rfl hh2 Try.underlying37 rfl HSY) rfl ?_
    exact ⟨rfl, by rw [HB.out]; exact hbw.grown hg2 (by omega) (fun k hk => by injection hk with hk; omega)⟩
  | true =>
    rw [hr] at c1
    have hc : hasC k m = false := by rw [hr] at hno; exact hno
    rw [hc] at c2
    clear hno hr hc
    go_enter Try.func16, Try.ntmps16
    go_wp2_with (rw [HWA.out, HB.out, HWB.out, HWC.out]; with_reducible refine wpList_load_row rfl 25 _ rfl B rfl 25 X (0, 0) _ hC0' Try.underlying25 rfl HSX ?_)
    refine c1.mono ?_
    rintro e w1 ⟨rfl, hb1⟩
    have ck := fr_cell0 ((hb1.block B (by omega)).trans HF0.out)
    have h11 := (hb1.block (B + 1) (by omega)).trans hC1
    have h12 := (hb1.block (B + 2) (by omega)).trans hC2
    have hbw := hbC.trans (hb1.mono (by omega))
    have hz1 : B + 3 ≤ w1.heap.size := by have := hb1.size; omega
    clear hb1 hbC hC0' hC1 hC2 hzA hzB hzC c1
    go_wp2_with (first | (with_reducible refine (c2 _).mono ?_; rintro e x ⟨rfl, rfl⟩) | (with_reducible refine wpList_load_row rfl 37 _ rfl (B + 2) rfl 37 Y (0, 0) _ h12 Try.underlying37 rfl HSY ?_) | (with_reducible refine wp_store_arr rfl 37 _ _ rfl (B + 1) Y Y rfl rfl 37 h11 HSY rfl HOY ?_; intro w2 hh2 hg2))
    refine bodyPost_ret (results_pair rfl _ _ (B + 1) 37 _ (0, 0) _ rfl hh2 Try.underlying37 rfl HSY) rfl ?_
    exact ⟨rfl, by rw [HB.out]; exact hbw.grown hg2 (by omega) (fun k hk => by injection hk with hk; omega)⟩
/-- A frame's sample, by the document. -/
theorem at_frame (k : Int) (v : Nat → Value) (n : Nat → Nat) (f : Nat → Nat → Int) (m b i : Nat) (w : World) (h : FrAt w v n f) (hr : rightF k n = true) (hm : m < cells k) (hb : b < 6) (hi : i < 64) :
    Calls Try.prog 36 #[.agg (frA k v), .int .i64 (plc b : Int), .int .i64 ((8 * col k m b + i % 8 : Nat) : Int), .int .i64 ((8 * lin k m b + i / 8 : Nat) : Int)] w fun e w' => e = .returned (.int .i64 (f (plc b) (pos k m b i))) ∧ Below w.heap.size w w' := by
  have hP := plc_most hb
  have hN := (rightF_iff.1 hr).2 _ hP
  have hs := siz_most k (plc b)
  have hp := pos_in hm hb hi
  have e := pos_page k m b i
  have c := at_page k v (n (plc b)) (plc b) (8 * col k m b + i % 8) (8 * lin k m b + i / 8) (f (plc b)) w hP (h _ hP) (by rw [hN]; omega) (by rw [hN, e]; exact hp)
  rw [e] at c
  exact c
set_option maxRecDepth 1000000 in
set_option maxHeartbeats 8000000 in
theorem cut_page (k : Int) (v : Nat → Value) (n : Nat → Nat) (f : Nat → Nat → Int) (m : Nat) (w : World) (h : FrAt w v n f) (hr : rightF k n = true) (hm : m < cells k) :
    Calls Try.prog 17 #[.agg (frA k v), .int .i64 (m : Int)] w fun e w' => e = .returned (.agg (arn 384 (cutF k m f))) ∧ Below w.heap.size w w' := by
  obtain ⟨B, wA, wB, wC, hB, hwA, hwB, hwC, hzA, hzB, hzC, hC0, hC1, hC2, hbC⟩ := laid3 w (.cells (frA k v) 25 (0, 0)) (.cells (arn 384 fun _ => 0) 37 (0, 0)) (.cells (arn 384 fun _ => 0) 37 (0, 0))
  replace hC2 : wC.heap[B + 2]? = some (ptO (putS (cutF k m f) 0)) := hC2
  have HF := Lib.hid (fun (x : World) (hx : Below B w x) => h.below (by rw [hB]; exact hx))
  have CP := Lib.hid (fun b i (hb : b < 6) (hi : i < 64) x => place_page k m b i x hm hb hi)
  have CA := Lib.hid (fun b i (hb : b < 6) (hi : i < 64) x (hx : Below B w x) => at_frame k v n f m b i x (HF.out x hx) hr hm hb hi)
  have HSX := fr_sized fr_size k v
  have HR := Lib.hid (fun b (hb : b < 6) i (hi : i < 64) => ((HF.out w (Below.refl _ _) _ (plc_most hb)).range (pos k m b i) (by rw [(rightF_iff.1 hr).2 _ (plc_most hb)]; exact pos_in hm hb hi)))
  have HPP := Lib.hid (fun g => pt_sized g)
  have hz0 := pt_zero
  have HYS : (arn 384 fun _ => 0).size = 384 := arn_size _ _
  obtain ⟨X, hX⟩ : ∃ X, frA k v = X := ⟨_, rfl⟩
  replace hC0 : wC.heap[B]? = some (frO 25 k v) := hC0
  have HXO := Lib.hid (fun (x : World) (hx : x.heap[B]? = some (frO 25 k v)) => (by rw [← hX]; exact hx : x.heap[B]? = some (.cells X 25 (0, 0))))
  rw [hX] at CA hwA HSX ⊢
  generalize (arn 384 fun _ => 0) = Y at *
  have HWA := Lib.hid hwA
  have HWB := Lib.hid hwB
  have HWC := Lib.hid hwC
  have HB := Lib.hid hB
  clear hX hwA hwB hwC hB h hr
  go_enter Try.func17, Try.ntmps17
  go_wp2
  rw [HWA.out, HB.out, HWB.out, HWC.out]
  go_loopw [6] (fun z wr => ∃ b : Nat, b ≤ 6 ∧ z = .int .i64 b ∧ wr.heap[B]? = some (frO 25 k v) ∧ wr.heap[B + 1]? = some (.cells Y 37 (0, 0)) ∧ wr.heap[B + 2]? = some (ptO (putS (cutF k m f) (64 * b))) ∧ Below B w wr ∧ B + 3 ≤ wr.heap.size) (fun z _ => 6 - (RowKit.intOf z).toNat)
  case atStart => exact ⟨0, by omega, rfl, hC0, hC1, hC2, hbC, by omega⟩
  case round =>
    clear hC0 hC1 hC2 hbC hzA hzB hzC
    obtain ⟨b, hb6, rfl, h0, h1, h2, hb, hz⟩ := hrel
    generalize wr = wo at *
    by_cases hlt : b < 6
    · have t0 : decide ((b : Int) < 6) = true := by simp; omega
      go_wp2
      go_loopw [7] (fun z wr => ∃ i : Nat, i ≤ 64 ∧ z = .int .i64 i ∧ wr.heap[B]? = some (frO 25 k v) ∧ wr.heap[B + 1]? = some (.cells Y 37 (0, 0)) ∧ wr.heap[B + 2]? = some (ptO (putS (cutF k m f) (64 * b + i))) ∧ Below B w wr ∧ B + 3 ≤ wr.heap.size) (fun z _ => 64 - (RowKit.intOf z).toNat)
      case atStart => exact ⟨0, by omega, rfl, h0, h1, h2, hb, hz⟩
      case round =>
        clear h0 h1 h2 hb hz
        obtain ⟨i, hi64, rfl, h0, h1, h2, hb, hz⟩ := hrel
        by_cases hli : i < 64
        · have t1 : decide ((i : Int) < 64) = true := by simp; omega
          have cp := fun x => CP.out b i hlt hli x
          have hg : cutF k m f (64 * b + i) = f (plc b) (pos k m b i) := by
            unfold cutF
            rw [show (64 * b + i) / 64 = b by omega, show (64 * b + i) % 64 = i by omega]
          have C1 := Lib.hid (fun x (hx : Below wr.heap.size wr x) => (CA.out b i hlt hli x (hb.trans (hx.mono (by omega)))).mono fun e y h => (⟨h.1, hx.trans (h.2.mono hx.size)⟩ : _ ∧ Below wr.heap.size wr y))
          rw [← hg] at C1
          have HX1 := Lib.hid (fun x (hx : Below wr.heap.size wr x) => HXO.out x ((hx.block B (by omega)).trans h0))
          have ck := fr_cell0 h0
          generalize plc b = P at cp C1
          generalize 8 * col k m b + i % 8 = xx at cp C1
          generalize 8 * lin k m b + i / 8 = yy at cp C1
          clear hg
          go_wp2_with fail
          refine (cp _).mono ?_
          rintro e x ⟨rfl, hx⟩
          go_wp2
          refine wp_region_calm (S := fun x => Below wr.heap.size wr x) 9 (by kernel_rfl) (by kernel_rfl) hx.drew ?_
          simp only [List.take_succ_cons, List.take_zero, List.drop_succ_cons, List.drop_zero]
          refine calm_value (v := ?v0) (by kernel_rfl) ?m ?_; (case m => (intro x _; go_simp; try with_reducible rfl))
          simp only [Act.put, List.setIfInBounds_toArray, List.set_cons_zero, List.set_cons_succ]
          refine calm_value (v := ?v1) (by kernel_rfl) ?m ?_; (case m => (intro x _; go_simp; try with_reducible rfl))
          simp only [Act.put, List.setIfInBounds_toArray, List.set_cons_zero, List.set_cons_succ]
          refine calm_load 25 _ B 25 X (0, 0) _ (by kernel_rfl) rfl rfl (fun x hx => HX1.out x hx) Try.underlying25 rfl HSX ?_
          simp only [Act.put, List.setIfInBounds_toArray, List.set_cons_zero, List.set_cons_succ]
          refine calm_value (v := ?v3) (by kernel_rfl) ?m ?_; (case m => (intro x _; go_simp; try with_reducible rfl))
          simp only [Act.put, List.setIfInBounds_toArray, List.set_cons_zero, List.set_cons_succ]
          refine calm_value (v := ?v4) (by kernel_rfl) ?m ?_; (case m => (intro x _; go_simp; try with_reducible rfl))
          simp only [Act.put, List.setIfInBounds_toArray, List.set_cons_zero, List.set_cons_succ]
          refine calm_value (v := ?v5) (by kernel_rfl) ?m ?_; (case m => (intro x _; go_simp; try with_reducible rfl))
          simp only [Act.put, List.setIfInBounds_toArray, List.set_cons_zero, List.set_cons_succ]
          refine calm_call (by kernel_rfl) C1.out (fun _ => by kernel_rfl) ?_
          simp only [Act.put, List.setIfInBounds_toArray, List.set_cons_zero, List.set_cons_succ]
          refine calm_value (v := ?v7) (by kernel_rfl) ?m ?_; (case m => (intro x _; go_simp; rw [if_pos (by omega)]))
          simp only [Act.put, List.setIfInBounds_toArray, List.set_cons_zero, List.set_cons_succ]
          refine calm_value (v := ?v8) (by kernel_rfl) ?m ?_; (case m => (intro x _; go_simp; rw [if_pos (by omega)]))
          simp only [Act.put, List.setIfInBounds_toArray, List.set_cons_zero, List.set_cons_succ]
          refine calm_nil fun x hx => ?_
          have g0 := (hx.block B (by omega)).trans h0
          have g1 := (hx.block (B + 1) (by omega)).trans h1
          have g2 := (hx.block (B + 2) (by omega)).trans h2
          have gb := hb.trans (hx.mono (by omega))
          have gz : B + 3 ≤ x.heap.size := by have := hx.size; omega
          obtain ⟨t, ht⟩ : ∃ t, 64 * b + i = t := ⟨_, rfl⟩
          have et : b * 64 + i = t := by omega
          rw [ht] at g2
          have ht4 : t < 384 := by omega
          have cc2 : x.cell? ⟨B + 1 + 1, b * 64 + i, none⟩ = some (.int .i64 (putS (cutF k m f) t t)) := by rw [et]; exact arn_cell (i := t) g2 ht4
          have ff2 : x.frozen? ⟨B + 1 + 1, b * 64 + i, none⟩ = false := by rw [et]; exact arn_free (i := t) g2
          rw [ht]
          have PUT := Lib.hid (⟨heap_set g0 (by simp; omega), heap_set g1 (by simp), by rw [et, show 64 * b + (i + 1) = t + 1 by omega]; exact pt_put g2, gb.setCell (by simp; omega) _, by simp [World.setCell]; omega⟩ : (x.setCell ⟨B + 1 + 1, b * 64 + i, none⟩ (.int .i64 (cutF k m f t))).heap[B]? = some (frO 25 k v) ∧ (x.setCell ⟨B + 1 + 1, b * 64 + i, none⟩ (.int .i64 (cutF k m f t))).heap[B + 1]? = some (.cells Y 37 (0, 0)) ∧ (x.setCell ⟨B + 1 + 1, b * 64 + i, none⟩ (.int .i64 (cutF k m f t))).heap[B + 2]? = some (ptO (putS (cutF k m f) (64 * b + (i + 1)))) ∧ Below B w (x.setCell ⟨B + 1 + 1, b * 64 + i, none⟩ (.int .i64 (cutF k m f t))) ∧ B + 3 ≤ (x.setCell ⟨B + 1 + 1, b * 64 + i, none⟩ (.int .i64 (cutF k m f t))).heap.size)
          generalize putS (cutF k m f) t t = y2 at cc2
          generalize cutF k m f t = zv at *
          clear ht et h0 h1 h2 hb hz g0 g1 g2 gb gz hx C1 HX1 ck
          go_wp2
          go_roundw
          case rel => exact ⟨i + 1, by omega, by go_num, PUT.out⟩
          case measure => simp [RowKit.intOf]; omega
        · obtain rfl : i = 64 := by omega
          have t1 : decide ((64 : Int) < 64) = false := by simp
          have h2' : wr.heap[B + 2]? = some (ptO (putS (cutF k m f) (64 * (b + 1)))) := h2
          clear h2
          go_wp2
          go_roundw
          case rel => exact ⟨b + 1, by omega, by go_num, h0, h1, h2', hb, hz⟩
          case measure => simp [RowKit.intOf]; omega
    · obtain rfl : b = 6 := by omega
      have t0 : decide ((6 : Int) < 6) = false := by simp
      have HSV := HPP.out (putS (cutF k m f) (64 * 6))
      have HOV := arn_one 384 (putS (cutF k m f) (64 * 6))
      have HVS : (arn 384 (putS (cutF k m f) (64 * 6))).size = 384 := arn_size _ _
      have HVE : arn 384 (putS (cutF k m f) (64 * 6)) = arn 384 (cutF k m f) := arn_congr (putS_most 384 (cutF k m f))
      have h2' : wo.heap[B + 2]? = some (.cells (arn 384 (putS (cutF k m f) (64 * 6))) 37 (0, 0)) := h2
      clear h2
      rw [HVE] at HSV HOV HVS h2'
      obtain ⟨V, hV⟩ : ∃ V, arn 384 (cutF k m f) = V := ⟨_, rfl⟩
      rw [hV] at HSV HOV HVS h2'
      have HVV := Lib.hid hV
      have HYV : Y.size = V.size := by rw [HYS, HVS]
      clear HVE hV
      go_wp2_with (first | (with_reducible refine wpList_load_row rfl 37 _ rfl (B + 2) rfl 37 V (0, 0) _ h2' Try.underlying37 rfl HSV ?_) | (with_reducible refine wp_store_arr rfl 37 _ _ rfl (B + 1) V Y rfl rfl 37 h1 HSV HYV HOV ?_; intro w2 hh2 hg2))
      refine bodyPost_ret (results_cell_row rfl _ _ (B + 1) 37 _ (0, 0) _ rfl hh2 Try.underlying37 rfl HSV) rfl ?_
      exact ⟨by rw [HVV.out], by rw [HB.out]; exact hb.grown hg2 (by omega) (fun k hk => by injection hk with hk; omega)⟩
end Go.Proofs.Ytmmgbnjfbapmcaa
