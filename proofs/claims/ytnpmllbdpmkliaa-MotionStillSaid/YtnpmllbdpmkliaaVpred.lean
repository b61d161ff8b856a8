/- A cell's patch by a vector, by the code. No condition. -/
import Derived.Test.YtnpmllbdpmkliaaVin
namespace Go.Proofs.Ytnpmllbdpmkliaa
open Go.RowKit Go.Lib

set_option maxRecDepth 1000000 in
set_option maxHeartbeats 8000000 in
theorem pred_code (k : Int) (v : Nat → Value) (n : Nat → Nat) (f : Nat → Nat → Int) (m : Nat) (a b : Int) (w : World) (h : FrAt w v n f) (hr : rightF k n = true) (hm : m < cells k) (hy : mayV k m a b = true) :
    Calls Try.prog 12 #[.agg (frA k v), .int .i64 (m : Int), .agg (twoA a b)] w fun e w' => e = .returned (.tuple #[.agg (arn 384 (predF k m f a b)), .int .i64 0]) ∧ Below w.heap.size w w' := by
  obtain ⟨B, wA, wB, wC, wD, hB, hwA, hwB, hwC, hwD, hzA, hzB, hzC, hzD, hD0, hD1, hD2, hD3, hbD⟩ := laid4 w (.cells (frA k v) 29 (0, 0)) (.cells (twoA a b) 22 (0, 0)) (.cells (arn 384 fun _ => 0) 33 (0, 0)) (.cells (arn 384 fun _ => 0) 33 (0, 0))
  obtain ⟨-, hu, hv⟩ := mayV_iff.1 hy
  rw [Int.toNat_natCast] at hu hv
  have hu2 := reachV_iff.1 hu
  have hv2 := reachV_iff.1 hv
  replace hD3 : wD.heap[B + 3]? = some (ptO (putS (predF k m f a b) 0)) := hD3
  have cR := frright_code k v n wD h.slices
  rw [hr] at cR
  have cH : ∀ w, Calls Try.prog 21 #[.int .i64 k, .int .i64 (m : Int)] w fun e w' => e = .returned (.bool true) ∧ w = w' := fun w => (hasm_code k m w).mono fun e y h => ⟨h.1.trans (by rw [hasC_iff.2 ⟨by omega, by simpa using hm⟩]), h.2⟩
  have cM := fun w => may_code k m a b w
  rw [hy] at cM
  have cC := fun w => fcells_code k w
  obtain ⟨e1, e2, -⟩ := acr_fmt k
  rw [← e1, ← e2] at cC
  clear e1 e2
  have HF := Lib.hid (fun (x : World) (hx : Below B w x) => h.below (by rw [hB]; exact hx))
  have HV := Lib.hid (rightF_iff.1 hr).2
  have HO := Lib.hid (fun p (hp : p < 3) x => over_code k v p x hp (fun p hp => by obtain ⟨a, c, h⟩ := h.slices p hp; exact ⟨a, n p, c, h⟩))
  obtain ⟨r1, r2, r3, z0, m1, m2, m3, m4⟩ := cell_quo hm
  have HT := Lib.hid (fun t (ht : t < 6) (x : World) (hx : Below B w x) c (lo : Nat) (hc : SampAt x lo c (v (plc t)) (wid k (plc t))) => (by
    obtain ⟨e1, e2, e3, e4, e5⟩ := pred_in (b := t) hm hu hv ht
    have hp := plc_most ht
    have en := (rightF_iff.1 hr).2 _ hp
    have hs := siz_most k (plc t)
    obtain ⟨h1, h2, -⟩ := cell_parts hm
    have hc1 := col_most hm ht
    have hl1 := lin_most hm ht
    have hw1 := wid_most k (plc t)
    exact taken_code c (v (plc t)) (wid k (plc t)) (n (plc t)) (col k m t) (lin k m t) (lefB k m t a) (topB k m t b) (f (plc t)) (vecB t a) (vecB t b) x lo hc (h.below (by rw [hB]; exact hx) _ hp) (by omega) (by omega) (by omega) e1 e2 e3 e4 (by rw [en]; exact e5) :
      Calls Try.prog 28 #[c, .int .i64 (col k m t : Int), .int .i64 (lin k m t : Int), .agg (twoA (vecB t a) (vecB t b))] x fun e w' => e = .returned (.agg (arrA (blkT (f (plc t)) (wid k (plc t)) (lefB k m t a) (topB k m t b)))) ∧ Below x.heap.size x w'))
  have HPB := Lib.hid (fun t => pred_block k m f a b t)
  have hzp := pt_zero
  have HSX := fr_sized fr_size k v
  have HS2 := two_sized a b
  have HPS := fun g => pt_sized g
  have HYS : (arn 384 fun _ => 0).size = 384 := arn_size _ _
  obtain ⟨X, hX⟩ : ∃ X, frA k v = X := ⟨_, rfl⟩
  have hD0' : wD.heap[B]? = some (.cells X 29 (0, 0)) := by rw [← hX]; exact hD0
  replace hD0 : wD.heap[B]? = some (frO 29 k v) := hD0
  have ck := fr_cell0 hD0
  rw [hX] at cR hwA HSX ⊢
  rw [hX] at HO
  obtain ⟨Y, hY⟩ : ∃ Y, (arn 384 fun _ => 0) = Y := ⟨_, rfl⟩
  rw [hY] at hwC hwD hzp HYS hD2
  obtain ⟨Z, hZ⟩ : ∃ Z, twoA a b = Z := ⟨_, rfl⟩
  rw [hZ] at hwB HS2 hD1 cM ⊢
  have HX := Lib.hid hX
  have HY := Lib.hid hY
  have HZ := Lib.hid hZ
  have HWA := Lib.hid hwA
  have HWB := Lib.hid hwB
  have HWC := Lib.hid hwC
  have HWD := Lib.hid hwD
  have HB := Lib.hid hB
  clear hX hY hZ hwA hwB hwC hwD hB h hr hu hv hy
  go_enter Try.func12, Try.ntmps12
  go_wp2_with (rw [HWA.out, HB.out, HWB.out, HWC.out, HWD.out]; with_reducible refine wpList_load_row rfl 29 _ rfl B rfl 29 X (0, 0) _ hD0' Try.underlying29 rfl HSX ?_)
  refine cR.mono ?_
  rintro e w1 ⟨rfl, hb1⟩
  have h0 := (hb1.block B (by omega)).trans hD0
  have h1 := (hb1.block (B + 1) (by omega)).trans hD1
  have h2 := (hb1.block (B + 2) (by omega)).trans hD2
  have h3 := (hb1.block (B + 3) (by omega)).trans hD3
  have hbw := hbD.trans (hb1.mono (by omega))
  have hz1 : B + 4 ≤ w1.heap.size := by have := hb1.size; omega
  replace ck := fr_cell0 h0
  clear hb1 hbD hD0 hD0' hD1 hD2 hD3 hzA hzB hzC hzD cR
  go_wp2_with (first | (with_reducible refine (cH _).mono ?_; rintro e x ⟨rfl, rfl⟩) | (with_reducible refine (cC _).mono ?_; rintro e x ⟨rfl, rfl⟩) | (with_reducible refine wpList_load_row rfl 22 _ rfl (B + 1) rfl 22 Z (0, 0) _ h1 Try.underlying22 rfl HS2 ?_))
  refine (cM _).mono ?_
  rintro e w2 ⟨rfl, hb1⟩
  replace h0 := (hb1.block B (by omega)).trans h0
  replace h1 := (hb1.block (B + 1) (by omega)).trans h1
  replace h2 := (hb1.block (B + 2) (by omega)).trans h2
  replace h3 := (hb1.block (B + 3) (by omega)).trans h3
  replace hbw := hbw.trans (hb1.mono (by omega))
  replace hz1 : B + 4 ≤ w2.heap.size := by have := hb1.size; omega
  replace ck := fr_cell0 h0
  have h0' : w2.heap[B]? = some (.cells X 29 (0, 0)) := by rw [← HX.out]; exact h0
  clear hb1 cM
  obtain ⟨u, hu⟩ : ∃ u, m % acr k = u := ⟨_, rfl⟩
  obtain ⟨q, hq⟩ : ∃ q, m / acr k = q := ⟨_, rfl⟩
  have hC4 := Lib.hid (fun t (ht : t < 4) => (by unfold col lin plc vecB; simp only [if_pos ht, hu, hq]; exact ⟨trivial, trivial, trivial, trivial, trivial⟩ : col k m t = 2 * u + t % 2 ∧ lin k m t = 2 * q + t / 2 ∧ plc t = 0 ∧ vecB t a = a ∧ vecB t b = b))
  have hC5 := Lib.hid (fun p (hp : p = 1 ∨ p = 2) => (by unfold col lin plc vecB; rcases hp with rfl | rfl <;> simp [hu, hq] : col k m (3 + p) = u ∧ lin k m (3 + p) = q ∧ plc (3 + p) = p ∧ vecB (3 + p) a = chrV a ∧ vecB (3 + p) b = chrV b))
  rw [hu] at r1 m1 hu2
  rw [hq] at r2 r3 m2 hv2
  generalize acr k = A at *
  generalize dow k = D at *
  clear hu hq
  have HM := Lib.hid hm
  have HZP := Lib.hid hzp
  clear hm hzp
  go_wp2_with (first | (with_reducible refine (cH _).mono ?_; rintro e x ⟨rfl, rfl⟩) | (with_reducible refine (cC _).mono ?_; rintro e x ⟨rfl, rfl⟩) | (with_reducible refine wpList_load_row rfl 29 _ rfl B rfl 29 X (0, 0) _ h0' Try.underlying29 rfl HSX ?_))
  refine wp_region_calm (S := fun x => Below w2.heap.size w2 x) 8 (by kernel_rfl) (by kernel_rfl) (Below.refl _ _).drew ?_
  simp only [List.take_succ_cons, List.take_zero, List.drop_succ_cons, List.drop_zero]
  refine calm_value (v := ?v0) (by kernel_rfl) ?m ?_; (case m => (intro x _; go_simp; try with_reducible rfl))
  simp only [Act.put, List.setIfInBounds_toArray, List.set_cons_zero, List.set_cons_succ]
  refine calm_value (v := ?v1) (by kernel_rfl) ?m ?_; (case m => (intro x _; go_simp; try with_reducible rfl))
  simp only [Act.put, List.setIfInBounds_toArray, List.set_cons_zero, List.set_cons_succ]
  refine calm_value (v := ?v2) (by kernel_rfl) ?m ?_; (case m => (intro x _; go_simp; rw [if_neg (by omega)]))
  simp only [Act.put, List.setIfInBounds_toArray, List.set_cons_zero, List.set_cons_succ]
  refine calm_value (v := ?v3) (by kernel_rfl) ?m ?_; (case m => (intro x _; go_simp; try with_reducible rfl))
  simp only [Act.put, List.setIfInBounds_toArray, List.set_cons_zero, List.set_cons_succ]
  refine calm_value (v := ?v4) (by kernel_rfl) ?m ?_; (case m => (intro x _; go_simp; try with_reducible rfl))
  simp only [Act.put, List.setIfInBounds_toArray, List.set_cons_zero, List.set_cons_succ]
  refine calm_value (v := ?v5) (by kernel_rfl) ?m ?_; (case m => (intro x _; go_simp; rw [if_neg (by omega)]))
  simp only [Act.put, List.setIfInBounds_toArray, List.set_cons_zero, List.set_cons_succ]
  refine calm_value (v := ?v6) (by kernel_rfl) ?m ?_; (case m => (intro x _; go_simp; try with_reducible rfl))
  simp only [Act.put, List.setIfInBounds_toArray, List.set_cons_zero, List.set_cons_succ]
  refine calm_value (v := ?v7) (by kernel_rfl) ?m ?_; (case m => (intro x _; go_simp; try with_reducible rfl))
  simp only [Act.put, List.setIfInBounds_toArray, List.set_cons_zero, List.set_cons_succ]
  refine calm_nil fun x hx => ?_
  replace h0 := (hx.block B (by omega)).trans h0
  replace h1 := (hx.block (B + 1) (by omega)).trans h1
  replace h2 := (hx.block (B + 2) (by omega)).trans h2
  replace h3 := (hx.block (B + 3) (by omega)).trans h3
  replace hbw := hbw.trans (hx.mono (by omega))
  replace hz1 : B + 4 ≤ x.heap.size := by have := hx.size; omega
  have ho := HO.out 0 (by omega) x
  have hzc := hz1
  replace h0' : x.heap[B]? = some (.cells X 29 (0, 0)) := by rw [← HX.out]; exact h0
  clear hx ck
  go_wp2_with (with_reducible refine wpList_load_row rfl 29 _ rfl B rfl 29 X (0, 0) _ h0' Try.underlying29 rfl HSX ?_)
  refine ho.mono ?_
  rintro e w3 ⟨c, rfl, hc, hb1⟩
  replace h0 := (hb1.block B (by omega)).trans h0
  replace h1 := (hb1.block (B + 1) (by omega)).trans h1
  replace h2 := (hb1.block (B + 2) (by omega)).trans h2
  replace h3 := (hb1.block (B + 3) (by omega)).trans h3
  replace hbw := hbw.trans (hb1.mono (by omega))
  replace hz1 : B + 4 ≤ w3.heap.size := by have := hb1.size; omega
  replace hc := hc.mono hzc
  clear hb1 ho h0' hzc
  go_wp2
  go_loopw [48] (fun z wr => ∃ t : Nat, t ≤ 4 ∧ z = .int .i64 t ∧ wr.heap[B]? = some (frO 29 k v) ∧ wr.heap[B + 1]? = some (.cells Z 22 (0, 0)) ∧ wr.heap[B + 2]? = some (.cells Y 33 (0, 0)) ∧ wr.heap[B + 3]? = some (ptO (putS (predF k m f a b) (64 * t))) ∧ Below B w wr ∧ B + 4 ≤ wr.heap.size ∧ SampAt wr (B + 4) c (v 0) (wid k 0)) (fun z _ => 4 - (RowKit.intOf z).toNat)
  case atStart => exact ⟨0, by omega, rfl, h0, h1, h2, h3, hbw, hz1, hc⟩
  case round =>
    clear h0 h1 h2 h3 hbw hz1 hc
    obtain ⟨t, ht4, rfl, h0, h1, h2, h3, hb, hz, hc⟩ := hrel
    by_cases hlt : t < 4
    · have t0 : decide ((t : Int) < 4) = true := by simp; omega
      obtain ⟨i1, i2, i3, i4, i5⟩ := hC4.out t hlt
      have ct := HT.out t (by omega) wr hb c (B + 4) (by rw [i3]; exact hc)
      have hG := HPB.out t
      rw [i1, i2, i3, i4, i5, HZ.out] at ct
      rw [i3] at hG
      generalize blkT (f 0) (wid k 0) (lefB k m t a) (topB k m t b) = G at ct hG
      have HSV := arr_sized G
      obtain ⟨V, hV⟩ : ∃ V, arrA G = V := ⟨_, rfl⟩
      rw [hV] at ct HSV
      have HV2 := Lib.hid hV
      have HG := Lib.hid hG
      have e1 : (t : Int).tmod 2 = ((t % 2 : Nat) : Int) := by rw [Int.tmod_eq_emod_of_nonneg (by omega)]; rfl
      have e2 : (t : Int).tdiv 2 = ((t / 2 : Nat) : Int) := by rw [Int.tdiv_eq_ediv_of_nonneg (by omega)]; rfl
      have e3 : IntKind.i64.wrap ((t / 2 : Nat) : Int) = ((t / 2 : Nat) : Int) := wrapNat (by omega)
      have b1 : t % 2 < 2 := by omega
      have b2 : t / 2 < 2 := by omega
      have S1 : 2 * (u : Int) + ((t % 2 : Nat) : Int) = ((2 * u + t % 2 : Nat) : Int) := by omega
      have S2 : 2 * (q : Int) + ((t / 2 : Nat) : Int) = ((2 * q + t / 2 : Nat) : Int) := by omega
      have S3 : IntKind.i64.wrap ((2 * u + t % 2 : Nat) : Int) = ((2 * u + t % 2 : Nat) : Int) := wrapNat (by omega)
      have S4 : IntKind.i64.wrap ((2 * q + t / 2 : Nat) : Int) = ((2 * q + t / 2 : Nat) : Int) := wrapNat (by omega)
      generalize 2 * u + t % 2 = xx at *
      generalize 2 * q + t / 2 = yy at *
      generalize t % 2 = tm at *
      generalize t / 2 = tq at *
      clear hV hG i1 i2 i3 i4 i5
      go_wp2_with (with_reducible refine wpList_load_row rfl 22 _ rfl (B + 1) rfl 22 Z (0, 0) _ h1 Try.underlying22 rfl HS2 ?_)
      refine ct.mono ?_
      rintro e x1 ⟨rfl, hb1⟩
      have k0 := (hb1.block B (by omega)).trans h0
      have k1 := (hb1.block (B + 1) (by omega)).trans h1
      have k2 := (hb1.block (B + 2) (by omega)).trans h2
      have k3 := (hb1.block (B + 3) (by omega)).trans h3
      have kb := hb.trans (hb1.mono (by omega))
      have kz : B + 4 ≤ x1.heap.size := by have := hb1.size; omega
      have kc := hc.below hb1
      have k3' : x1.heap[B + 1 + 1 + 1]? = some (arnO 33 384 (putS (predF k m f a b) (64 * t))) := k3
      clear h0 h1 h2 h3 hb hz hc hb1 ct S1 S2 S3 S4 k3
      go_wp2_with (refine wp_store_block rfl 31 _ _ rfl (B + 1 + 1 + 1) t _ (by omega) 33 (predF k m f a b) G V HV2.out rfl rfl k3' (by omega) HG.out HSV ?_; intro w2 hh2 hg2)
      have hb2 : Below B w w2 := kb.grown hg2 (by omega) (fun k hk => by injection hk with hk; omega)
      have j0 := (hg2.block B (by omega) (by intro e; injection e with e; omega)).trans k0
      have j1 := (hg2.block (B + 1) (by omega) (by intro e; injection e with e; omega)).trans k1
      have j2 := (hg2.block (B + 2) (by omega) (by intro e; injection e with e; omega)).trans k2
      have jz : B + 4 ≤ w2.heap.size := Nat.le_trans kz hg2.size
      have jc := kc.grown hg2 (by omega)
      go_roundw
      case rel => exact ⟨t + 1, by omega, by go_num, j0, j1, j2, hh2.out, hb2, jz, jc⟩
      case measure => simp [RowKit.intOf]; omega
    · obtain rfl : t = 4 := by omega
      have t0 : decide ((4 : Int) < 4) = false := by simp
      have h1' : wr.heap[B + 1]? = some (.cells (twoA a b) 22 (0, 0)) := by rw [HZ.out]; exact h1
      have HC2 := Lib.hid (fun (x : World) (hx : Below wr.heap.size wr x) => two_at ((hx.block (B + 1) (by omega)).trans h1'))
      have C1 := Lib.hid (fun (x : World) (hx : Below wr.heap.size wr x) => ((chroma_code a x).mono fun e y h => ⟨h.1, h.2 ▸ hx⟩ : Calls Try.prog 6 #[.int .i64 a] x fun e y => e = .returned (.int .i64 (chrV a)) ∧ Below wr.heap.size wr y))
      have C2 := Lib.hid (fun (x : World) (hx : Below wr.heap.size wr x) => ((chroma_code b x).mono fun e y h => ⟨h.1, h.2 ▸ hx⟩ : Calls Try.prog 6 #[.int .i64 b] x fun e y => e = .returned (.int .i64 (chrV b)) ∧ Below wr.heap.size wr y))
      have hca := chrV_in a
      have hcb := chrV_in b
      generalize chrV a = a' at *
      generalize chrV b = b' at *
      clear hc h1'
      go_wp2
      refine wp_region_calm (S := fun x => Below wr.heap.size wr x) 7 (by kernel_rfl) (by kernel_rfl) (Below.refl _ _).drew ?_
      simp only [List.take_succ_cons, List.take_zero, List.drop_succ_cons, List.drop_zero]
      refine calm_value (v := ?vc0) (by kernel_rfl) ?m ?_; (case m => (intro x _; go_simp; try with_reducible rfl))
      simp only [Act.put, List.setIfInBounds_toArray, List.set_cons_zero, List.set_cons_succ]
      refine calm_cell 3 _ ⟨B + 1, 0, none⟩ (.int .i64 a) (by kernel_rfl) rfl rfl (fun x hx => by have c0 := (HC2.out x hx).1; go_simp) ?_
      simp only [Act.put, List.setIfInBounds_toArray, List.set_cons_zero, List.set_cons_succ]
      refine calm_call (by kernel_rfl) C1.out (fun _ => by kernel_rfl) ?_
      simp only [Act.put, List.setIfInBounds_toArray, List.set_cons_zero, List.set_cons_succ]
      refine calm_value (v := ?vc3) (by kernel_rfl) ?m ?_; (case m => (intro x _; go_simp; try with_reducible rfl))
      simp only [Act.put, List.setIfInBounds_toArray, List.set_cons_zero, List.set_cons_succ]
      refine calm_cell 3 _ ⟨B + 1, 1, none⟩ (.int .i64 b) (by kernel_rfl) rfl rfl (fun x hx => by have c0 := (HC2.out x hx).2; go_simp) ?_
      simp only [Act.put, List.setIfInBounds_toArray, List.set_cons_zero, List.set_cons_succ]
      refine calm_call (by kernel_rfl) C2.out (fun _ => by kernel_rfl) ?_
      simp only [Act.put, List.setIfInBounds_toArray, List.set_cons_zero, List.set_cons_succ]
      refine calm_value (v := ?vc6) (by kernel_rfl) ?m ?_; (case m => (intro x _; go_simp; try with_reducible rfl))
      simp only [Act.put, List.setIfInBounds_toArray, List.set_cons_zero, List.set_cons_succ]
      refine calm_nil fun x hx => ?_
      have k0 := (hx.block B (by omega)).trans h0
      have k1 := (hx.block (B + 1) (by omega)).trans h1
      have k2 := (hx.block (B + 2) (by omega)).trans h2
      have k3 := (hx.block (B + 3) (by omega)).trans h3
      have kb := hb.trans (hx.mono (by omega))
      have kz : B + 4 ≤ x.heap.size := by have := hx.size; omega
      have HZS : Z.size = 2 := by rw [← HZ.out]; rfl
      go_wp2_with (refine wp_store_arr rfl 22 _ _ rfl (B + 1) #[.int .i64 a', .int .i64 b'] Z rfl rfl 22 k1 (two_sized a' b') HZS (two_one a' b') ?_; intro w2 hh2 hg2)
      have hC2 : ∃ Z2, twoA a' b' = Z2 := ⟨_, rfl⟩
      obtain ⟨Z2, hZ2⟩ := hC2
      have HSZ2 : (Try.prog.info? 22).map (·.size) = some Z2.size := by rw [← hZ2]; exact two_sized a' b'
      have j0 := (hg2.block B (by omega) (by intro e; injection e with e; omega)).trans k0
      have j1 : w2.heap[B + 1]? = some (.cells Z2 22 (0, 0)) := by rw [← hZ2]; exact hh2
      have j2 := (hg2.block (B + 2) (by omega) (by intro e; injection e with e; omega)).trans k2
      have j3 : w2.heap[B + 3]? = some (arnO 33 384 (putS (predF k m f a b) (64 * (3 + 1)))) := (hg2.block (B + 3) (by omega) (by intro e; injection e with e; omega)).trans k3
      have jb : Below B w w2 := kb.grown hg2 (by omega) (fun k hk => by injection hk with hk; omega)
      have jz : B + 4 ≤ w2.heap.size := Nat.le_trans kz hg2.size
      have HZ2 := Lib.hid hZ2
      clear h0 h1 h2 h3 hb hz k0 k1 k2 k3 kb kz hx hh2 hg2 hZ2 C1 C2 HC2
      generalize wr = wo at *
      go_loopw [15] (fun z wr => ∃ p : Nat, (p = 1 ∨ p = 2 ∨ p = 3) ∧ z = .int .i64 p ∧ wr.heap[B]? = some (frO 29 k v) ∧ wr.heap[B + 1]? = some (.cells Z2 22 (0, 0)) ∧ wr.heap[B + 2]? = some (.cells Y 33 (0, 0)) ∧ wr.heap[B + 3]? = some (arnO 33 384 (putS (predF k m f a b) (64 * (3 + p)))) ∧ Below B w wr ∧ B + 4 ≤ wr.heap.size) (fun z _ => 3 - (RowKit.intOf z).toNat)
      case atStart => exact ⟨1, .inl rfl, rfl, j0, j1, j2, j3, jb, jz⟩
      case round =>
        clear j0 j1 j2 j3 jb jz
        obtain ⟨p, hp3, rfl, h0, h1, h2, h3, hb, hz⟩ := hrel
        by_cases hlt : p < 3
        · have hp : p = 1 ∨ p = 2 := by omega
          have t1 : decide ((p : Int) < 3) = true := by simp; omega
          obtain ⟨i1, i2, i3, i4, i5⟩ := hC5.out p hp
          have ho := HO.out p (by omega)
          have h0' : wr.heap[B]? = some (.cells X 29 (0, 0)) := by rw [← HX.out]; exact h0
          obtain ⟨t, ht⟩ : ∃ t, 3 + p = t := ⟨_, rfl⟩
          have ht6 : t < 6 := by omega
          have hp6 := Lib.hid ht6
          obtain ⟨t1, ht1⟩ : ∃ t1, t + 1 = t1 := ⟨_, rfl⟩
          have S1 : (4 : Int) + (p : Int) = (t1 : Int) := by omega
          have S2 : (t1 : Int) - 1 = (t : Int) := by omega
          have S3 : IntKind.i64.wrap (t1 : Int) = (t1 : Int) := wrapNat (by omega)
          have S4 : IntKind.i64.wrap (t : Int) = (t : Int) := wrapNat (by omega)
          rw [ht] at i1 i2 i3 i4 i5 h3
          have h4 : 64 * (t + 1) = 64 * (3 + (p + 1)) := by omega
          have H4 := Lib.hid h4
          have HTP := Lib.hid ht
          clear ht1 h4 ht
          have hG := HPB.out t
          rw [i3] at hG
          generalize hGG : blkT (f p) (wid k p) (lefB k m t a) (topB k m t b) = G at hG
          have HSV := arr_sized G
          obtain ⟨V, hV⟩ : ∃ V, arrA G = V := ⟨_, rfl⟩
          rw [hV] at HSV
          have HVV := Lib.hid hV
          rw [← hGG] at hV
          replace hV := Lib.hid hV
          have HG := Lib.hid hG
          clear hG hGG
          go_wp2
          refine wp_region_held_drew (S := (fun x => Below B w x ∧ x.heap[B]? = some (.cells X 29 (0, 0)) ∧ x.heap[B + 1]? = some (.cells Z2 22 (0, 0)))) (by kernel_rfl) ⟨hb.drew, h0', h1⟩ (fun hH => ?_)
          refine held_take 0 (some 78) (v := ?_) rfl rfl (by kernel_rfl) (by kernel_rfl) (by kernel_rfl) (fun _ _ _ h => h) hH (Or.inl ⟨by kernel_rfl, ?_⟩) ?_
          rotate_left
          · (intro x _; go_simp; try with_reducible rfl)
          rotate_right
          try simp only [Act.put, List.setIfInBounds_toArray, List.set_cons_zero, List.set_cons_succ]
          refine held_take 1 (some 79) (v := ?_) rfl rfl (by kernel_rfl) (by kernel_rfl) (by kernel_rfl) (fun _ _ _ h => h) hH (Or.inl ⟨by kernel_rfl, ?_⟩) ?_
          rotate_left
          · (intro x _; go_simp; try with_reducible rfl)
          rotate_right
          try simp only [Act.put, List.setIfInBounds_toArray, List.set_cons_zero, List.set_cons_succ]
          refine held_take 2 (some 80) (v := ?_) rfl rfl (by kernel_rfl) (by kernel_rfl) (by kernel_rfl) (fun _ _ _ h => h) hH (Or.inl ⟨by kernel_rfl, ?_⟩) ?_
          rotate_left
          · (intro x _; go_simp; try with_reducible rfl)
          rotate_right
          try simp only [Act.put, List.setIfInBounds_toArray, List.set_cons_zero, List.set_cons_succ]
          refine held_take 3 (some 81) (v := .agg X) rfl rfl (by kernel_rfl) (by kernel_rfl) (by kernel_rfl) (fun _ _ _ h => h) hH (Or.inl ⟨by kernel_rfl, fun x hx => exec_load (ty := 29) (x := .tmp 3) (ad := ⟨B, 0, none⟩) (by kernel_rfl) (by kernel_rfl) (run_loadVar_row x (B) _ _ X (0, 0) _ (hx.2.1) Try.underlying29 rfl HSX)⟩) ?_
          try simp only [Act.put, List.setIfInBounds_toArray, List.set_cons_zero, List.set_cons_succ]
          refine held_take 4 (some 82) (v := ?_) rfl rfl (by kernel_rfl) (by kernel_rfl) (by kernel_rfl) (fun _ _ _ h => h) hH (Or.inl ⟨by kernel_rfl, ?_⟩) ?_
          rotate_left
          · (intro x _; go_simp; try with_reducible rfl)
          rotate_right
          try simp only [Act.put, List.setIfInBounds_toArray, List.set_cons_zero, List.set_cons_succ]
          refine held_take 6 (some 84) (v := ?_) rfl rfl (by kernel_rfl) (by kernel_rfl) (by kernel_rfl) (fun _ _ _ h => h) hH (Or.inl ⟨by kernel_rfl, ?_⟩) ?_
          rotate_left
          · (intro x _; go_simp; try with_reducible rfl)
          rotate_right
          try simp only [Act.put, List.setIfInBounds_toArray, List.set_cons_zero, List.set_cons_succ]
          refine held_take 7 (some 85) (v := ?_) rfl rfl (by kernel_rfl) (by kernel_rfl) (by kernel_rfl) (fun _ _ _ h => h) hH (Or.inl ⟨by kernel_rfl, ?_⟩) ?_
          rotate_left
          · (intro x _; go_simp; try with_reducible rfl)
          rotate_right
          try simp only [Act.put, List.setIfInBounds_toArray, List.set_cons_zero, List.set_cons_succ]
          refine held_take 8 (some 86) (v := .agg Z2) rfl rfl (by kernel_rfl) (by kernel_rfl) (by kernel_rfl) (fun _ _ _ h => h) hH (Or.inl ⟨by kernel_rfl, fun x hx => exec_load (ty := 22) (x := .tmp 5) (ad := ⟨B + 1, 0, none⟩) (by kernel_rfl) (by kernel_rfl) (run_loadVar_row x (B + 1) _ _ Z2 (0, 0) _ (hx.2.2) Try.underlying22 rfl HSZ2)⟩) ?_
          try simp only [Act.put, List.setIfInBounds_toArray, List.set_cons_zero, List.set_cons_succ]
          refine wpAnyH_ready (rs := [5]) (by kernel_rfl) (by simp) ?_
          refine AllReadyH.cons rfl (fun K hK => ?_) AllReadyH.nil
          go_simp
          go_wp2_with fail
          refine (ho _).mono ?_
          rintro e x1 ⟨c1, rfl, hc, hb1⟩
          have hc2 := hc.mono (show B + 4 ≤ wr.drew.heap.size from hz)
          have k2 := (hb1.block (B + 2) (show B + 2 < wr.heap.size by omega)).trans h2
          have k3 := (hb1.block (B + 3) (show B + 3 < wr.heap.size by omega)).trans h3
          have kz : B + 4 ≤ x1.heap.size := Nat.le_trans hz hb1.size
          clear hc
          refine hK.out _ _ (⟨hH.1.trans (hb1.mono (show B ≤ wr.heap.size by omega)), (hb1.block B (show B < wr.heap.size by omega)).trans hH.2.1, (hb1.block (B + 1) (show B + 1 < wr.heap.size by omega)).trans hH.2.2⟩) (fun hH2 => ?_)
          clear hK K hH
          have hH := hH2
          clear hH2
          try simp only [Act.put, List.setIfInBounds_toArray, List.set_cons_zero, List.set_cons_succ]
          refine wpAnyH_ready (rs := [9]) (by kernel_rfl) (by simp) ?_
          refine AllReadyH.cons rfl (fun K hK => ?_) AllReadyH.nil
          go_simp
          go_wp2_with fail
          have ct := HT.out t hp6 x1 hH.1 c1 (B + 4) (by rw [i3]; exact hc2)
          rw [i1, i2, i3, i4, i5, HZ2.out, hV.out] at ct
          refine ct.mono ?_
          rintro e x2 ⟨rfl, hb2⟩
          have l2 := (hb2.block (B + 2) (by omega)).trans k2
          have l3 := (hb2.block (B + 3) (by omega)).trans k3
          have lz : B + 4 ≤ x2.heap.size := Nat.le_trans kz hb2.size
          refine hK.out _ _ (⟨hH.1.trans (hb2.mono (by omega)), (hb2.block B (by omega)).trans hH.2.1, (hb2.block (B + 1) (by omega)).trans hH.2.2⟩) (fun hH2 => ?_)
          clear hK K hH
          have hH := hH2
          clear hH2
          try simp only [Act.put, List.setIfInBounds_toArray, List.set_cons_zero, List.set_cons_succ]
          refine held_take 10 (some 88) (v := .pointer (some ⟨B + 1 + 1 + 1, t * 64, none⟩)) rfl rfl (by kernel_rfl) (by kernel_rfl) (by kernel_rfl) (fun _ _ _ h => h) hH (Or.inl ⟨by kernel_rfl, ?_⟩) ?_
          · (intro x _; go_simp; first | rw [if_pos (by omega)] | exact fun h6 => absurd h6 (by omega))
          try simp only [Act.put, List.setIfInBounds_toArray, List.set_cons_zero, List.set_cons_succ]
          refine wpAnyH_ready (rs := [11]) (by kernel_rfl) (by simp) ?_
          refine AllReadyH.cons rfl (fun K hK => ?_) AllReadyH.nil
          refine (if_pos (by kernel_rfl)).mpr ?_
          refine oper_store_block 31 _ _ rfl (B + 1 + 1 + 1) t _ (by omega) 33 (predF k m f a b) G V HVV.out rfl rfl l3 ht6 HG.out HSV (fun w5 hh5 hg5 => ?_)
          have n0 := (hg5.block B (by omega) (by intro e; injection e with e; omega)).trans hH.2.1
          have n1 := (hg5.block (B + 1) (by omega) (by intro e; injection e with e; omega)).trans hH.2.2
          have n2 := (hg5.block (B + 2) (by omega) (by intro e; injection e with e; omega)).trans l2
          have nb : Below B w w5 := hH.1.grown hg5 (by omega) (fun k hk => by injection hk with hk; omega)
          have nz : B + 4 ≤ w5.heap.size := Nat.le_trans lz hg5.size
          refine hK.out _ _ ⟨nb, n0, n1⟩ (fun hH2 => ?_)
          clear hK K hH hH2
          try simp only [Act.put]
          refine wpAnyH_done (by kernel_rfl) ?_ _
          have n3 : w5.heap[B + 3]? = some (arnO 33 384 (putS (predF k m f a b) (64 * (3 + (p + 1))))) := by rw [← H4.out]; exact hh5.out
          have n0' : w5.heap[B]? = some (frO 29 k v) := by rw [← HX.out] at n0; exact n0
          clear h0 h1 h2 h3 hb hz hb1 hb2 k2 k3 kz l2 l3 lz ct hc2 hg5 hh5 n0 h0' S1 S2 S3 S4
          go_wp2
          go_roundw
          case rel => exact ⟨p + 1, by omega, by go_num, n0', n1, n2, n3, nb, nz⟩
          case measure => simp [RowKit.intOf]; omega
        · obtain rfl : p = 3 := by omega
          have t1 : decide ((3 : Int) < 3) = false := by simp
          have HSV := HPS (putS (predF k m f a b) (64 * 6))
          have HOV := arn_one 384 (putS (predF k m f a b) (64 * 6))
          have HVS : (arn 384 (putS (predF k m f a b) (64 * 6))).size = 384 := arn_size _ _
          have HVE : arn 384 (putS (predF k m f a b) (64 * 6)) = arn 384 (predF k m f a b) := arn_congr (putS_most 384 (predF k m f a b))
          have h3' : wr.heap[B + 3]? = some (.cells (arn 384 (putS (predF k m f a b) (64 * 6))) 33 (0, 0)) := h3
          clear h3
          rw [HVE] at HSV HOV HVS h3'
          obtain ⟨V, hV⟩ : ∃ V, arn 384 (predF k m f a b) = V := ⟨_, rfl⟩
          rw [hV] at HSV HOV HVS h3'
          have HVV := Lib.hid hV
          have HYV : Y.size = V.size := by rw [HYS, HVS]
          clear HVE hV
          go_wp2_with (first | (with_reducible refine wpList_load_row rfl 33 _ rfl (B + 3) rfl 33 V (0, 0) _ h3' Try.underlying33 rfl HSV ?_) | (with_reducible refine wp_store_arr rfl 33 _ _ rfl (B + 2) V Y rfl rfl 33 h2 HSV HYV HOV ?_; intro w4 hh4 hg4))
          refine bodyPost_ret (results_pair rfl _ _ (B + 2) 33 _ (0, 0) _ rfl hh4 Try.underlying33 rfl HSV) rfl ?_
          exact ⟨by rw [HVV.out]; rfl, by rw [HB.out]; exact hb.grown hg4 (by omega) (fun k hk => by injection hk with hk; omega)⟩
end Go.Proofs.Ytnpmllbdpmkliaa
