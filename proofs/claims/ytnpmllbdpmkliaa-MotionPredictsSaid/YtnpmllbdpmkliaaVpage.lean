/- A cell's patch by a vector, by the document. No condition. -/
import Derived.Test.YtnpmllbdpmkliaaVat
namespace Go.Proofs.Ytnpmllbdpmkliaa
open Go.RowKit Go.Lib

set_option maxRecDepth 1000000 in
set_option maxHeartbeats 8000000 in
theorem pred_page (k : Int) (v : Nat → Value) (n : Nat → Nat) (f : Nat → Nat → Int) (m : Nat) (a b : Int) (w : World) (h : FrAt w v n f) (hr : rightF k n = true) (hm : m < cells k) (hy : mayV k m a b = true) :
    Calls Try.prog 15 #[.agg (frA k v), .int .i64 (m : Int), .agg (twoA a b)] w fun e w' => e = .returned (.agg (arn 384 (predF k m f a b))) ∧ Below w.heap.size w w' := by
  obtain ⟨B, wA, wB, wC, wD, hB, hwA, hwB, hwC, hwD, hzA, hzB, hzC, hzD, hD0, hD1, hD2, hD3, hbD⟩ := laid4 w (.cells (frA k v) 29 (0, 0)) (.cells (twoA a b) 22 (0, 0)) (.cells (arn 384 fun _ => 0) 33 (0, 0)) (.cells (arn 384 fun _ => 0) 33 (0, 0))
  obtain ⟨-, hu, hv⟩ := mayV_iff.1 hy
  rw [Int.toNat_natCast] at hu hv
  have hu2 := (reachV_iff.1 hu).1
  have hv2 := (reachV_iff.1 hv).1
  replace hD3 : wD.heap[B + 3]? = some (ptO (putS (predF k m f a b) 0)) := hD3
  have CP := Lib.hid (fun t i (ht : t < 6) (hi : i < 64) x => place_page k m t i x hm ht hi)
  have CA := Lib.hid (fun t i (ht : t < 6) (hi : i < 64) x (hx : Below B w x) => (by
    obtain ⟨-, -, e3, e4, e5⟩ := pred_in (b := t) hm hu hv ht
    have hp := plc_most ht
    have en := (rightF_iff.1 hr).2 _ hp
    have hs := siz_most k (plc t)
    have hq := pred_block k m f a b t i hi
    unfold blkT at hq
    rw [← hq]
    exact hat_page k v (n (plc t)) (plc t) (lefB k m t a + 2 * (i % 8)) (topB k m t b + 2 * (i / 8)) (f (plc t)) x hp (h.below (by rw [hB]; exact hx) _ hp) (by omega) (by omega) (by omega) (by rw [en]; exact e5 i hi) :
      Calls Try.prog 32 #[.agg (frA k v), .int .i64 (plc t : Int), .int .i64 ((lefB k m t a + 2 * (i % 8) : Nat) : Int), .int .i64 ((topB k m t b + 2 * (i / 8) : Nat) : Int)] x fun e w' => e = .returned (.int .i64 (predF k m f a b (64 * t + i))) ∧ Below x.heap.size x w'))
  have HL := Lib.hid (fun t (ht : t < 6) => (by
    obtain ⟨e1, e2, e3, e4, -⟩ := pred_in (b := t) hm hu hv ht
    have hc1 := col_most hm ht
    have hl1 := lin_most hm ht
    have hw1 := wid_most k (plc t)
    exact ⟨e1, e2, e3, e4, by omega, by omega⟩ : 16 * (col k m t : Int) + vecB t a = (lefB k m t a : Int) ∧ 16 * (lin k m t : Int) + vecB t b = (topB k m t b : Int) ∧ lefB k m t a ≤ 9000 ∧ topB k m t b ≤ 9000 ∧ col k m t ≤ 176 ∧ lin k m t ≤ 176))
  have HSX := fr_sized fr_size k v
  have HPP := Lib.hid (fun g => pt_sized g)
  have hz0 := pt_zero
  have HYS : (arn 384 fun _ => 0).size = 384 := arn_size _ _
  have HS2 := two_sized a b
  have HTW := Lib.hid (fun (x : World) (hx : x.heap[B + 1]? = some (.cells (twoA a b) 22 (0, 0))) => two_at hx)
  obtain ⟨X, hX⟩ : ∃ X, frA k v = X := ⟨_, rfl⟩
  replace hD0 : wD.heap[B]? = some (frO 29 k v) := hD0
  have HXO := Lib.hid (fun (x : World) (hx : x.heap[B]? = some (frO 29 k v)) => (by rw [← hX]; exact hx : x.heap[B]? = some (.cells X 29 (0, 0))))
  rw [hX] at CA hwA HSX ⊢
  generalize (arn 384 fun _ => 0) = Y at *
  have HWA := Lib.hid hwA
  have HWB := Lib.hid hwB
  have HWC := Lib.hid hwC
  have HWD := Lib.hid hwD
  have HB := Lib.hid hB
  generalize hZ : twoA a b = Z at *
  have HZ := Lib.hid hZ
  clear hX hZ hwA hwB hwC hwD hB h hr hu hv hy
  go_enter Try.func15, Try.ntmps15
  go_wp2
  rw [HWA.out, HB.out, HWB.out, HWC.out, HWD.out]
  go_loopw [8] (fun z wr => ∃ t : Nat, t ≤ 6 ∧ z = .int .i64 t ∧ wr.heap[B]? = some (frO 29 k v) ∧ wr.heap[B + 1]? = some (.cells Z 22 (0, 0)) ∧ wr.heap[B + 2]? = some (.cells Y 33 (0, 0)) ∧ wr.heap[B + 3]? = some (ptO (putS (predF k m f a b) (64 * t))) ∧ Below B w wr ∧ B + 4 ≤ wr.heap.size) (fun z _ => 6 - (RowKit.intOf z).toNat)
  case atStart => exact ⟨0, by omega, rfl, hD0, hD1, hD2, hD3, hbD, by omega⟩
  case round =>
    clear hD0 hD1 hD2 hD3 hbD hzA hzB hzC hzD
    obtain ⟨t, ht6, rfl, h0, h1, h2, h3, hb, hz⟩ := hrel
    generalize wr = wo at *
    by_cases hlt : t < 6
    · have t0 : decide ((t : Int) < 6) = true := by simp; omega
      go_wp2
      go_loopw [9] (fun z wr => ∃ i : Nat, i ≤ 64 ∧ z = .int .i64 i ∧ wr.heap[B]? = some (frO 29 k v) ∧ wr.heap[B + 1]? = some (.cells Z 22 (0, 0)) ∧ wr.heap[B + 2]? = some (.cells Y 33 (0, 0)) ∧ wr.heap[B + 3]? = some (ptO (putS (predF k m f a b) (64 * t + i))) ∧ Below B w wr ∧ B + 4 ≤ wr.heap.size) (fun z _ => 64 - (RowKit.intOf z).toNat)
      case atStart => exact ⟨0, by omega, rfl, h0, h1, h2, h3, hb, hz⟩
      case round =>
        clear h0 h1 h2 h3 hb hz
        obtain ⟨i, hi64, rfl, h0, h1, h2, h3, hb, hz⟩ := hrel
        by_cases hli : i < 64
        · have t1 : decide ((i : Int) < 64) = true := by simp; omega
          have cp := fun x => CP.out t i hlt hli x
          obtain ⟨e1, e2, e3, e4, e5, e6⟩ := HL.out t hlt
          have C1 := Lib.hid (fun x (hx : Below wr.heap.size wr x) => (CA.out t i hlt hli x (hb.trans (hx.mono (by omega)))).mono fun e y h => (⟨h.1, hx.trans (h.2.mono hx.size)⟩ : _ ∧ Below wr.heap.size wr y))
          have HX1 := Lib.hid (fun x (hx : Below wr.heap.size wr x) => HXO.out x ((hx.block B (by omega)).trans h0))
          have HM1 := Lib.hid (fun x (hx : Below wr.heap.size wr x) => HTW.out x ((hx.block (B + 1) (by omega)).trans h1))
          have ck := fr_cell0 h0
          have T1 : 2 * ((8 * col k m t + i % 8 : Nat) : Int) + vecB t a = ((lefB k m t a + 2 * (i % 8) : Nat) : Int) := by omega
          have T2 : 2 * ((8 * lin k m t + i / 8 : Nat) : Int) + vecB t b = ((topB k m t b + 2 * (i / 8) : Nat) : Int) := by omega
          have W1 : IntKind.i64.wrap (2 * ((8 * col k m t + i % 8 : Nat) : Int)) = 2 * ((8 * col k m t + i % 8 : Nat) : Int) := wrapN (by omega)
          have W2 : IntKind.i64.wrap (2 * ((8 * lin k m t + i / 8 : Nat) : Int)) = 2 * ((8 * lin k m t + i / 8 : Nat) : Int) := wrapN (by omega)
          have W3 : IntKind.i64.wrap ((lefB k m t a + 2 * (i % 8) : Nat) : Int) = ((lefB k m t a + 2 * (i % 8) : Nat) : Int) := wrapNat (by omega)
          have W4 : IntKind.i64.wrap ((topB k m t b + 2 * (i / 8) : Nat) : Int) = ((topB k m t b + 2 * (i / 8) : Nat) : Int) := wrapNat (by omega)
          generalize 8 * col k m t + i % 8 = xx at *
          generalize 8 * lin k m t + i / 8 = yy at *
          generalize lefB k m t a + 2 * (i % 8) = Lx at *
          generalize topB k m t b + 2 * (i / 8) = Ty at *
          clear e1 e2 e3 e4 e5 e6
          by_cases h4 : t < 4
          · have hP : plc t = 0 := by unfold plc; rw [if_pos h4]
            have hva : vecB t a = a := by unfold vecB; rw [if_pos h4]
            have hvb : vecB t b = b := by unfold vecB; rw [if_pos h4]
            rw [hP] at cp C1
            rw [hva] at T1
            rw [hvb] at T2
            clear hP hva hvb
            go_wp2_with fail
            refine (cp _).mono ?_
            rintro e x ⟨rfl, hx⟩
            go_wp2
            refine wp_region_calm (S := fun x => Below wr.heap.size wr x) 17 (by kernel_rfl) (by kernel_rfl) hx.drew ?_
            simp only [List.take_succ_cons, List.take_zero, List.drop_succ_cons, List.drop_zero]
            refine calm_value (v := ?vp0) (by kernel_rfl) ?m ?_; (case m => (intro x _; go_simp; try with_reducible rfl))
            simp only [Act.put, List.setIfInBounds_toArray, List.set_cons_zero, List.set_cons_succ]
            refine calm_value (v := ?vp1) (by kernel_rfl) ?m ?_; (case m => (intro x _; go_simp; try with_reducible rfl))
            simp only [Act.put, List.setIfInBounds_toArray, List.set_cons_zero, List.set_cons_succ]
            refine calm_load 29 _ B 29 X (0, 0) _ (by kernel_rfl) rfl rfl (fun x hx => HX1.out x hx) Try.underlying29 rfl HSX ?_
            simp only [Act.put, List.setIfInBounds_toArray, List.set_cons_zero, List.set_cons_succ]
            refine calm_value (v := ?vp3) (by kernel_rfl) ?m ?_; (case m => (intro x _; go_simp; try with_reducible rfl))
            simp only [Act.put, List.setIfInBounds_toArray, List.set_cons_zero, List.set_cons_succ]
            refine calm_value (v := ?vp4) (by kernel_rfl) ?m ?_; (case m => (intro x _; go_simp; try with_reducible rfl))
            simp only [Act.put, List.setIfInBounds_toArray, List.set_cons_zero, List.set_cons_succ]
            refine calm_value (v := ?vp5) (by kernel_rfl) ?m ?_; (case m => (intro x _; go_simp; try with_reducible rfl))
            simp only [Act.put, List.setIfInBounds_toArray, List.set_cons_zero, List.set_cons_succ]
            refine calm_value (v := ?vp6) (by kernel_rfl) ?m ?_; (case m => (intro x _; go_simp; try with_reducible rfl))
            simp only [Act.put, List.setIfInBounds_toArray, List.set_cons_zero, List.set_cons_succ]
            refine calm_cell 3 _ ⟨B + 1, 0, none⟩ (.int .i64 a) (by kernel_rfl) rfl rfl (fun x hx => by have c0 := (HM1.out x hx).1; go_simp) ?_
            simp only [Act.put, List.setIfInBounds_toArray, List.set_cons_zero, List.set_cons_succ]
            refine calm_value (v := ?vp8) (by kernel_rfl) ?m ?_; (case m => (intro x _; go_simp; try with_reducible rfl))
            simp only [Act.put, List.setIfInBounds_toArray, List.set_cons_zero, List.set_cons_succ]
            refine calm_value (v := ?vp9) (by kernel_rfl) ?m ?_; (case m => (intro x _; go_simp; try with_reducible rfl))
            simp only [Act.put, List.setIfInBounds_toArray, List.set_cons_zero, List.set_cons_succ]
            refine calm_value (v := ?vp10) (by kernel_rfl) ?m ?_; (case m => (intro x _; go_simp; try with_reducible rfl))
            simp only [Act.put, List.setIfInBounds_toArray, List.set_cons_zero, List.set_cons_succ]
            refine calm_value (v := ?vp11) (by kernel_rfl) ?m ?_; (case m => (intro x _; go_simp; try with_reducible rfl))
            simp only [Act.put, List.setIfInBounds_toArray, List.set_cons_zero, List.set_cons_succ]
            refine calm_cell 3 _ ⟨B + 1, 1, none⟩ (.int .i64 b) (by kernel_rfl) rfl rfl (fun x hx => by have c0 := (HM1.out x hx).2; go_simp) ?_
            simp only [Act.put, List.setIfInBounds_toArray, List.set_cons_zero, List.set_cons_succ]
            refine calm_value (v := ?vp13) (by kernel_rfl) ?m ?_; (case m => (intro x _; go_simp; try with_reducible rfl))
            simp only [Act.put, List.setIfInBounds_toArray, List.set_cons_zero, List.set_cons_succ]
            refine calm_call (by kernel_rfl) C1.out (fun _ => by kernel_rfl) ?_
            simp only [Act.put, List.setIfInBounds_toArray, List.set_cons_zero, List.set_cons_succ]
            refine calm_value (v := ?vp15) (by kernel_rfl) ?m ?_; (case m => (intro x _; go_simp; rw [if_pos (by omega)]))
            simp only [Act.put, List.setIfInBounds_toArray, List.set_cons_zero, List.set_cons_succ]
            refine calm_value (v := ?vp16) (by kernel_rfl) ?m ?_; (case m => (intro x _; go_simp; rw [if_pos (by omega)]))
            simp only [Act.put, List.setIfInBounds_toArray, List.set_cons_zero, List.set_cons_succ]
            refine calm_nil fun x hx => ?_
            have g0 := (hx.block B (by omega)).trans h0
            have g1 := (hx.block (B + 1) (by omega)).trans h1
            have g2 := (hx.block (B + 2) (by omega)).trans h2
            have g3 := (hx.block (B + 3) (by omega)).trans h3
            have gb := hb.trans (hx.mono (by omega))
            have gz : B + 4 ≤ x.heap.size := by have := hx.size; omega
            obtain ⟨s, hs⟩ : ∃ s, 64 * t + i = s := ⟨_, rfl⟩
            have et : t * 64 + i = s := by omega
            rw [hs] at g3
            have ht4 : s < 384 := by omega
            have cc2 : x.cell? ⟨B + 1 + 1 + 1, t * 64 + i, none⟩ = some (.int .i64 (putS (predF k m f a b) s s)) := by rw [et]; exact arn_cell (i := s) g3 ht4
            have ff2 : x.frozen? ⟨B + 1 + 1 + 1, t * 64 + i, none⟩ = false := by rw [et]; exact arn_free (i := s) g3
            rw [hs]
            have PUT := Lib.hid (⟨heap_set g0 (by simp; omega), heap_set g1 (by simp), heap_set g2 (by simp), by rw [et, show 64 * t + (i + 1) = s + 1 by omega]; exact pt_put g3, gb.setCell (by simp; omega) _, by simp [World.setCell]; omega⟩ : (x.setCell ⟨B + 1 + 1 + 1, t * 64 + i, none⟩ (.int .i64 (predF k m f a b s))).heap[B]? = some (frO 29 k v) ∧ (x.setCell ⟨B + 1 + 1 + 1, t * 64 + i, none⟩ (.int .i64 (predF k m f a b s))).heap[B + 1]? = some (.cells Z 22 (0, 0)) ∧ (x.setCell ⟨B + 1 + 1 + 1, t * 64 + i, none⟩ (.int .i64 (predF k m f a b s))).heap[B + 2]? = some (.cells Y 33 (0, 0)) ∧ (x.setCell ⟨B + 1 + 1 + 1, t * 64 + i, none⟩ (.int .i64 (predF k m f a b s))).heap[B + 3]? = some (ptO (putS (predF k m f a b) (64 * t + (i + 1)))) ∧ Below B w (x.setCell ⟨B + 1 + 1 + 1, t * 64 + i, none⟩ (.int .i64 (predF k m f a b s))) ∧ B + 4 ≤ (x.setCell ⟨B + 1 + 1 + 1, t * 64 + i, none⟩ (.int .i64 (predF k m f a b s))).heap.size)
            generalize putS (predF k m f a b) s s = y2 at cc2
            generalize predF k m f a b s = zv at *
            clear hs et h0 h1 h2 h3 hb hz g0 g1 g2 g3 gb gz hx C1 HX1 HM1 ck T1 T2 W1 W2 W3 W4
            go_wp2
            go_roundw
            case rel => exact ⟨i + 1, by omega, by go_num, PUT.out⟩
            case measure => simp [RowKit.intOf]; omega
          · have hP : ((plc t : Int) == 0) = false := by unfold plc; rw [if_neg h4]; simp; omega
            have hva : vecB t a = chrV a := by unfold vecB; rw [if_neg h4]
            have hvb : vecB t b = chrV b := by unfold vecB; rw [if_neg h4]
            have C3 := Lib.hid (fun (x : World) (hx : Below wr.heap.size wr x) => ((chrp_page a x).mono fun e y h => ⟨h.1, h.2 ▸ hx⟩ : Calls Try.prog 7 #[.int .i64 a] x fun e y => e = .returned (.int .i64 (chrV a)) ∧ Below wr.heap.size wr y))
            have C4 := Lib.hid (fun (x : World) (hx : Below wr.heap.size wr x) => ((chrp_page b x).mono fun e y h => ⟨h.1, h.2 ▸ hx⟩ : Calls Try.prog 7 #[.int .i64 b] x fun e y => e = .returned (.int .i64 (chrV b)) ∧ Below wr.heap.size wr y))
            rw [hva] at T1
            rw [hvb] at T2
            generalize chrV a = a' at *
            generalize chrV b = b' at *
            generalize plc t = P at *
            clear hva hvb
            go_wp2_with fail
            refine (cp _).mono ?_
            rintro e x ⟨rfl, hx⟩
            go_wp2
            refine wp_region_calm (S := fun x => Below wr.heap.size wr x) 19 (by kernel_rfl) (by kernel_rfl) hx.drew ?_
            simp only [List.take_succ_cons, List.take_zero, List.drop_succ_cons, List.drop_zero]
            refine calm_value (v := ?vq0) (by kernel_rfl) ?m ?_; (case m => (intro x _; go_simp; try with_reducible rfl))
            simp only [Act.put, List.setIfInBounds_toArray, List.set_cons_zero, List.set_cons_succ]
            refine calm_value (v := ?vq1) (by kernel_rfl) ?m ?_; (case m => (intro x _; go_simp; try with_reducible rfl))
            simp only [Act.put, List.setIfInBounds_toArray, List.set_cons_zero, List.set_cons_succ]
            refine calm_load 29 _ B 29 X (0, 0) _ (by kernel_rfl) rfl rfl (fun x hx => HX1.out x hx) Try.underlying29 rfl HSX ?_
            simp only [Act.put, List.setIfInBounds_toArray, List.set_cons_zero, List.set_cons_succ]
            refine calm_value (v := ?vq3) (by kernel_rfl) ?m ?_; (case m => (intro x _; go_simp; try with_reducible rfl))
            simp only [Act.put, List.setIfInBounds_toArray, List.set_cons_zero, List.set_cons_succ]
            refine calm_value (v := ?vq4) (by kernel_rfl) ?m ?_; (case m => (intro x _; go_simp; try with_reducible rfl))
            simp only [Act.put, List.setIfInBounds_toArray, List.set_cons_zero, List.set_cons_succ]
            refine calm_value (v := ?vq5) (by kernel_rfl) ?m ?_; (case m => (intro x _; go_simp; try with_reducible rfl))
            simp only [Act.put, List.setIfInBounds_toArray, List.set_cons_zero, List.set_cons_succ]
            refine calm_value (v := ?vq6) (by kernel_rfl) ?m ?_; (case m => (intro x _; go_simp; try with_reducible rfl))
            simp only [Act.put, List.setIfInBounds_toArray, List.set_cons_zero, List.set_cons_succ]
            refine calm_cell 3 _ ⟨B + 1, 0, none⟩ (.int .i64 a) (by kernel_rfl) rfl rfl (fun x hx => by have c0 := (HM1.out x hx).1; go_simp) ?_
            simp only [Act.put, List.setIfInBounds_toArray, List.set_cons_zero, List.set_cons_succ]
            refine calm_call (by kernel_rfl) C3.out (fun _ => by kernel_rfl) ?_
            simp only [Act.put, List.setIfInBounds_toArray, List.set_cons_zero, List.set_cons_succ]
            refine calm_value (v := ?vq9) (by kernel_rfl) ?m ?_; (case m => (intro x _; go_simp; try with_reducible rfl))
            simp only [Act.put, List.setIfInBounds_toArray, List.set_cons_zero, List.set_cons_succ]
            refine calm_value (v := ?vq10) (by kernel_rfl) ?m ?_; (case m => (intro x _; go_simp; try with_reducible rfl))
            simp only [Act.put, List.setIfInBounds_toArray, List.set_cons_zero, List.set_cons_succ]
            refine calm_value (v := ?vq11) (by kernel_rfl) ?m ?_; (case m => (intro x _; go_simp; try with_reducible rfl))
            simp only [Act.put, List.setIfInBounds_toArray, List.set_cons_zero, List.set_cons_succ]
            refine calm_value (v := ?vq12) (by kernel_rfl) ?m ?_; (case m => (intro x _; go_simp; try with_reducible rfl))
            simp only [Act.put, List.setIfInBounds_toArray, List.set_cons_zero, List.set_cons_succ]
            refine calm_cell 3 _ ⟨B + 1, 1, none⟩ (.int .i64 b) (by kernel_rfl) rfl rfl (fun x hx => by have c0 := (HM1.out x hx).2; go_simp) ?_
            simp only [Act.put, List.setIfInBounds_toArray, List.set_cons_zero, List.set_cons_succ]
            refine calm_call (by kernel_rfl) C4.out (fun _ => by kernel_rfl) ?_
            simp only [Act.put, List.setIfInBounds_toArray, List.set_cons_zero, List.set_cons_succ]
            refine calm_value (v := ?vq15) (by kernel_rfl) ?m ?_; (case m => (intro x _; go_simp; try with_reducible rfl))
            simp only [Act.put, List.setIfInBounds_toArray, List.set_cons_zero, List.set_cons_succ]
            refine calm_call (by kernel_rfl) C1.out (fun _ => by kernel_rfl) ?_
            simp only [Act.put, List.setIfInBounds_toArray, List.set_cons_zero, List.set_cons_succ]
            refine calm_value (v := ?vq17) (by kernel_rfl) ?m ?_; (case m => (intro x _; go_simp; rw [if_pos (by omega)]))
            simp only [Act.put, List.setIfInBounds_toArray, List.set_cons_zero, List.set_cons_succ]
            refine calm_value (v := ?vq18) (by kernel_rfl) ?m ?_; (case m => (intro x _; go_simp; rw [if_pos (by omega)]))
            simp only [Act.put, List.setIfInBounds_toArray, List.set_cons_zero, List.set_cons_succ]
            refine calm_nil fun x hx => ?_
            have g0 := (hx.block B (by omega)).trans h0
            have g1 := (hx.block (B + 1) (by omega)).trans h1
            have g2 := (hx.block (B + 2) (by omega)).trans h2
            have g3 := (hx.block (B + 3) (by omega)).trans h3
            have gb := hb.trans (hx.mono (by omega))
            have gz : B + 4 ≤ x.heap.size := by have := hx.size; omega
            obtain ⟨s, hs⟩ : ∃ s, 64 * t + i = s := ⟨_, rfl⟩
            have et : t * 64 + i = s := by omega
            rw [hs] at g3
            have ht4 : s < 384 := by omega
            have cc2 : x.cell? ⟨B + 1 + 1 + 1, t * 64 + i, none⟩ = some (.int .i64 (putS (predF k m f a b) s s)) := by rw [et]; exact arn_cell (i := s) g3 ht4
            have ff2 : x.frozen? ⟨B + 1 + 1 + 1, t * 64 + i, none⟩ = false := by rw [et]; exact arn_free (i := s) g3
            rw [hs]
            have PUT := Lib.hid (⟨heap_set g0 (by simp; omega), heap_set g1 (by simp), heap_set g2 (by simp), by rw [et, show 64 * t + (i + 1) = s + 1 by omega]; exact pt_put g3, gb.setCell (by simp; omega) _, by simp [World.setCell]; omega⟩ : (x.setCell ⟨B + 1 + 1 + 1, t * 64 + i, none⟩ (.int .i64 (predF k m f a b s))).heap[B]? = some (frO 29 k v) ∧ (x.setCell ⟨B + 1 + 1 + 1, t * 64 + i, none⟩ (.int .i64 (predF k m f a b s))).heap[B + 1]? = some (.cells Z 22 (0, 0)) ∧ (x.setCell ⟨B + 1 + 1 + 1, t * 64 + i, none⟩ (.int .i64 (predF k m f a b s))).heap[B + 2]? = some (.cells Y 33 (0, 0)) ∧ (x.setCell ⟨B + 1 + 1 + 1, t * 64 + i, none⟩ (.int .i64 (predF k m f a b s))).heap[B + 3]? = some (ptO (putS (predF k m f a b) (64 * t + (i + 1)))) ∧ Below B w (x.setCell ⟨B + 1 + 1 + 1, t * 64 + i, none⟩ (.int .i64 (predF k m f a b s))) ∧ B + 4 ≤ (x.setCell ⟨B + 1 + 1 + 1, t * 64 + i, none⟩ (.int .i64 (predF k m f a b s))).heap.size)
            generalize putS (predF k m f a b) s s = y2 at cc2
            generalize predF k m f a b s = zv at *
            clear hs et h0 h1 h2 h3 hb hz g0 g1 g2 g3 gb gz hx C1 HX1 HM1 ck T1 T2 W1 W2 W3 W4
            go_wp2
            go_roundw
            case rel => exact ⟨i + 1, by omega, by go_num, PUT.out⟩
            case measure => simp [RowKit.intOf]; omega
        · obtain rfl : i = 64 := by omega
          have t1 : decide ((64 : Int) < 64) = false := by simp
          have h3' : wr.heap[B + 3]? = some (ptO (putS (predF k m f a b) (64 * (t + 1)))) := h3
          clear h3
          go_wp2
          go_roundw
          case rel => exact ⟨t + 1, by omega, by go_num, h0, h1, h2, h3', hb, hz⟩
          case measure => simp [RowKit.intOf]; omega
    · obtain rfl : t = 6 := by omega
      have t0 : decide ((6 : Int) < 6) = false := by simp
      have HSV := HPP.out (putS (predF k m f a b) (64 * 6))
      have HOV := arn_one 384 (putS (predF k m f a b) (64 * 6))
      have HVS : (arn 384 (putS (predF k m f a b) (64 * 6))).size = 384 := arn_size _ _
      have HVE : arn 384 (putS (predF k m f a b) (64 * 6)) = arn 384 (predF k m f a b) := arn_congr (putS_most 384 (predF k m f a b))
      have h3' : wo.heap[B + 3]? = some (.cells (arn 384 (putS (predF k m f a b) (64 * 6))) 33 (0, 0)) := h3
      clear h3
      rw [HVE] at HSV HOV HVS h3'
      obtain ⟨V, hV⟩ : ∃ V, arn 384 (predF k m f a b) = V := ⟨_, rfl⟩
      rw [hV] at HSV HOV HVS h3'
      have HVV := Lib.hid hV
      have HYV : Y.size = V.size := by rw [HYS, HVS]
      clear HVE hV
      go_wp2_with (first | (with_reducible refine wpList_load_row rfl 33 _ rfl (B + 3) rfl 33 V (0, 0) _ h3' Try.underlying33 rfl HSV ?_) | (with_reducible refine wp_store_arr rfl 33 _ _ rfl (B + 2) V Y rfl rfl 33 h2 HSV HYV HOV ?_; intro w2 hh2 hg2))
      refine bodyPost_ret (results_cell_row rfl _ _ (B + 2) 33 _ (0, 0) _ rfl hh2 Try.underlying33 rfl HSV) rfl ?_
      exact ⟨by rw [HVV.out], by rw [HB.out]; exact hb.grown hg2 (by omega) (fun k hk => by injection hk with hk; omega)⟩
end Go.Proofs.Ytnpmllbdpmkliaa
