/- The walk of PlanesLays, formats above 5. No condition. -/
import Derived.Test.YtmmgbnjfbapmcaaPlawt
namespace Go.Proofs.Ytmmgbnjfbapmcaa
open Go.RowKit Go.Lib

set_option maxRecDepth 1000000 in
set_option maxHeartbeats 8000000 in
theorem planesLays_more (k : Int) (op : Option Addr) (len cap : Nat) (w : World) (hrow : RowsAt w (PieceIn w) 2 op len) (hlm : len ≤ maxLen) (hk : isFmt k = true) (hq : ¬ 20 < len) (h36 : 3 ≤ k) (h37 : 5 < k) :
    Calls Try.prog 5 #[.int .i64 k, .slice op len cap] w fun e w' => e = .returned (.bool true) ∧ Below w.heap.size w w' := by
  obtain ⟨B, hB⟩ : ∃ B, w.heap.size = B := ⟨_, rfl⟩
  rw [hB]
  have KK := Lib.hid (fun (x y : World) (hx : Below B w x) (hy : Below x.heap.size x y) => (hx.trans (hy.mono (by have := hx.size; omega)) : Below B w y))
  have CL := Lib.hid (fun (x : World) (hx : Below B w x) => ((lives17 x).mono fun e y h => ⟨h.1, KK.out x y hx h.2⟩ : Calls Try.prog 8 #[] x fun e y => e = .returned (.bool true) ∧ Below B w y))
  have hS0 : Below B w w := Below.refl _ _
  have HRO := Lib.hid hrow
  have HB := Lib.hid hB
  clear hrow hB
  have t0 : decide (20 < (len : Int)) = false := decide_eq_false (by omega)
  have t1 : decide (3 ≤ k) = true := decide_eq_true (by omega)
  have t2 : decide (k ≤ 5) = false := decide_eq_false (by omega)
  have hFz : ∀ w, (zeroValue 25).run Try.prog w = .ok (.agg (frA 0 nilV)) w := fr_zero
  have hCz : ∀ w, (zeroValue 49).run Try.prog w = .ok (.agg (frA 0 nilV)) w := can_zero
  have hPz := pt_zero
  have L1 := Lib.hid (lay_nil 0 (fun _ => 0))
  have L2 := Lib.hid (fun (x : World) (Z : Nat) (h : x.heap[Z]? = some (frO 49 0 nilV)) => lay_none 0 Z nilV 0 (fun _ => 0) x h (by decide +kernel))
  have L3 := Lib.hid frame_nil
  have L4 := Lib.hid same_nil
  have L5 := Lib.hid frame_zero
  have HYS : (frA 0 nilV).size = 4 := rfl
  obtain ⟨Y, hY⟩ : ∃ Y, frA 0 nilV = Y := ⟨_, rfl⟩
  have HCO := Lib.hid (fun (x : World) => (by rw [← hY]; exact heap_alloc_new x _ : (x.alloc (.cells Y 49 (0, 0))).heap[x.heap.size]? = some (frO 49 0 nilV)))
  rw [hY] at hFz hCz HYS L3 L4 L5
  generalize (arn 384 fun _ => 0) = PZ at hPz L1 L2
  clear hY
  have HM := Lib.hid (many_page k)
  have HON := Lib.hid (fun w => on_code k w hk)
  have HNW := Lib.hid (fun w => new_page k 0 w hk)
  rw [clip_nought] at HNW
  have hNm := cells_most k
  have hN0 : 0 < cells k := by have := acr_some hk; exact Nat.mul_pos this.1 this.2
  have HKF := Lib.hid hk
  have HNO := Lib.hid (fun (n : Int) (h : n < 0 ∨ (cells k : Int) ≤ n) => (by unfold hasC; rcases h with h | h <;> simp <;> omega : hasC k n = false))
  clear hk
  generalize hNN : cells k = N at hNm hN0 HM HNO
  have HNN := Lib.hid hNN
  have tN : ((N : Int) == 0) = false := by simp; omega
  clear hNN
  go_enter Try.func5, Try.ntmps5
  go_wp2_with fail
  refine (HON.out _).mono ?_
  rintro e x ⟨C, vc, gc, rfl, hcan, hb⟩
  rw [HB.out] at hcan hb
  have hx := KK.out _ _ hS0 (by rw [HB.out]; exact hb)
  clear hb
  go_wp2_with fail
  refine (L1.out _).mono ?_
  rintro e x2 ⟨rfl, hb2⟩
  have hZ1 := HCO.out x
  have hx1 := KK.out _ _ hx ((Below.refl _ x).alloc (Nat.le_refl _) (.cells Y 49 (0, 0)))
  have hx2 := KK.out _ _ hx1 hb2
  have hZ2 := (hb2.block _ (Array.getElem?_eq_some_iff.1 hZ1).1).trans hZ1
  go_wp2_with fail
  refine (L2.out _ _ hZ2).mono ?_
  rintro e x3 ⟨rfl, hb3⟩
  have hx3 := KK.out _ _ hx2 hb3
  have hZ3 := (hb3.block _ (Array.getElem?_eq_some_iff.1 hZ2).1).trans hZ2
  go_wp2_with fail
  refine (L3.out _).mono ?_
  rintro e x4 ⟨rfl, hb4⟩
  have hx4 := KK.out _ _ hx3 hb4
  have hZ4 := (hb4.block _ (Array.getElem?_eq_some_iff.1 hZ3).1).trans hZ3
  go_wp2_with fail
  refine (L4.out _).mono ?_
  rintro e x5 ⟨rfl, hb5⟩
  have hx5 := KK.out _ _ hx4 hb5
  have hZ5 := (hb5.block _ (Array.getElem?_eq_some_iff.1 hZ4).1).trans hZ4
  go_wp2_with fail
  refine (L5.out _ _ hZ5).mono ?_
  rintro e x6 ⟨rfl, hb6⟩
  have hx6 := KK.out _ _ hx5 hb6
  go_wp2_with fail
  refine (L4.out _).mono ?_
  rintro e x7 ⟨rfl, hb7⟩
  have hx7 := KK.out _ _ hx6 hb7
  go_wp2_with fail
  refine (HM.out _).mono ?_
  rintro e x8 ⟨rfl, hb8⟩
  have hx8 := KK.out _ _ hx7 hb8
  have hcan8 := ((((((((hcan.below HKF.out ((Below.refl _ x).alloc (Nat.le_refl _) (.cells Y 49 (0, 0)))).below HKF.out hb2).below HKF.out hb3).below HKF.out hb4).below HKF.out hb5).below HKF.out hb6).below HKF.out hb7).below HKF.out hb8)
  clear hcan hb2 hb3 hb4 hb5 hb6 hb7 hb8 hx hx1 hx2 hx3 hx4 hx5 hx6 hx7 hZ1 hZ2 hZ3 hZ4 hZ5
  go_wp2_with fail
  refine (HNW.out _).mono ?_
  rintro e x9 ⟨vf, gf, rfl, hO, hb9⟩
  obtain ⟨x10, hx10e⟩ : ∃ x10, x9.alloc (.cells (frA k vf) 25 (0, 0)) = x10 := ⟨_, rfl⟩
  have hb10 : Below x9.heap.size x9 x10 := by rw [← hx10e]; exact (Below.refl _ x9).alloc (Nat.le_refl _) _
  have h10 : x10.heap[x9.heap.size]? = some (frO 25 k vf) := by rw [← hx10e]; exact heap_alloc_new x9 _
  have hB8 : B ≤ x8.heap.size := by have := hx8.size; have := HB.out; omega
  have hglt : ∀ p, p < 3 → gc p < x8.heap.size := fun p hp => (hcan8.own.pl p hp).lt (siz_some HKF.out p)
  have hClt : C < x8.heap.size := (Array.getElem?_eq_some_iff.1 hcan8.there).1
  have hflt : ∀ p, p < 3 → gf p < x9.heap.size := fun p hp => (hO.pl p hp).lt (siz_some HKF.out p)
  have hfro := hO.from_
  have HTW := Lib.hid (⟨(hcan8.below HKF.out hb9).below HKF.out hb10, h10, (hO.below (fun p _ => siz_some HKF.out p) hb10).mono hB8, fun p hp => by have := hfro p hp; omega, fun p hp => by have := hglt p hp; have := hb9.size; omega, fun p hp => by have := hflt p hp; omega, fun p q hp hq => by have := hglt p hp; have := hfro q hq; omega⟩ : Two x10 B C x9.heap.size k vc vf gc gf (fun _ _ => 0) (fun _ _ => 0))
  have hx10 := KK.out _ _ (KK.out _ _ hx8 hb9) hb10
  have HSV := fr_sized fr_size k vf
  have HOV := fr_ones k vf hO.ones
  have HYV : Y.size = (frA k vf).size := HYS
  have HW10 := Lib.hid hx10e
  clear hx10e hb10 h10 hB8 hglt hClt hflt hfro hO hb9 hcan8 hx8
  obtain ⟨X, hX⟩ : ∃ X, frA k vf = X := ⟨_, rfl⟩
  rw [hX] at HSV HOV HYV HW10
  rw [hX]
  have HXE := Lib.hid hX
  clear hX
  go_wp2_with (with_reducible refine wp_store_fresh rfl 25 _ _ rfl X Y 25 rfl rfl HSV HYV HOV ?_; rw [HW10.out])
  generalize x9.heap.size = F at *
  clear HW10
  go_loopw [10] (fun z wr => ∃ (i : Nat) (cf : Nat → Nat → Int), i ≤ len ∧ z = .int .i64 i ∧ Hid (Two wr B C F k vc vf gc gf cf cf) ∧ Below B w wr) (fun z _ => len - (RowKit.intOf z).toNat)
  case atStart => exact ⟨0, _, by omega, rfl, HTW, hx10⟩
  case round =>
    clear HTW hx10
    obtain ⟨i, cf, hi, rfl, HTC, hS⟩ := hrel
    by_cases hlt : i < len
    · have t3 : decide ((i : Int) < (len : Int)) = true := decide_eq_true (by omega)
      rcases HRO.out with h0 | ⟨ob, oo, rfl, hob, hrows⟩
      · omega
      obtain ⟨vs, -, ⟨n, pp, pl, pc, pf, rfl, hpl, hpi⟩, hcell⟩ := hrows i hlt
      have c0 := hcell 0 _ rfl
      have c1 := hcell 1 _ rfl
      rw [Nat.add_zero] at c0
      have hobB : ob < B := by have := HB.out; omega
      have HP0 := Lib.hid (fun (x : World) (hx : Below B w x) => (hx.cell (p := ⟨ob, oo + i * 2, none⟩) hobB).trans c0)
      have HP1 := Lib.hid (fun (x : World) (hx : Below B w x) => (hx.cell (p := ⟨ob, oo + i * 2 + 1, none⟩) hobB).trans c1)
      have CP := Lib.hid (fun (x : World) (hx : Below B w x) => patch_code n pp pl pc pf x hpl (hpi.below (by rw [HB.out]; exact hx)))
      clear hrows hcell c0 c1 hpl hpi
      go_wp2_with fail
      refine (frame_code k B C vc gc cf _ HKF.out HTC.out.can).mono ?_
      rintro e x ⟨vw, gw, rfl, hOw, hbw⟩
      obtain ⟨x1, hx1e⟩ : ∃ x1, x.alloc (.cells (frA k vw) 25 (0, 0)) = x1 := ⟨_, rfl⟩
      have hb1 : Below x.heap.size x x1 := by rw [← hx1e]; exact (Below.refl _ x).alloc (Nat.le_refl _) _
      have hx1 := KK.out _ _ (KK.out _ _ hS hbw) hb1
      have HT1 := Lib.hid ((HTC.out.below HKF.out hbw).below HKF.out hb1)
      have HWB := Lib.hid (by rw [← hx1e]; exact heap_alloc_new x _ : x1.heap[x.heap.size]? = some (frO 25 k vw))
      have HOW := Lib.hid (hOw.below (fun p _ => siz_some HKF.out p) hb1)
      have hgc : ∀ p, p < 3 → gc p < wr.heap.size := fun p hp => (HTC.out.can.own.pl p hp).lt (siz_some HKF.out p)
      have HAP := Lib.hid (⟨fun p q hp hq => by have := hgc p hp; have := hOw.from_ q hq; omega, fun p hp => by have := hgc p hp; have := hbw.size; omega⟩ : (∀ p q, p < 3 → q < 3 → gc p ≠ gw q) ∧ ∀ p, p < 3 → x.heap.size ≠ gc p)
      have HSW := fr_sized fr_size k vw
      have HOO := fr_ones k vw hOw.ones
      have HYW : Y.size = (frA k vw).size := HYS
      have HW1 := Lib.hid hx1e
      clear hx1e hb1 hgc hOw hbw
      obtain ⟨V, hV⟩ : ∃ V, frA k vw = V := ⟨_, rfl⟩
      rw [hV] at HSW HOO HYW HW1
      rw [hV]
      have HVE := Lib.hid hV
      clear hV
      have HP2 := Lib.hid (fun (y : World) (hy : Below x1.heap.size x1 y) => HP0.out y (KK.out _ _ hx1 hy))
      have HP3 := Lib.hid (fun (y : World) (hy : Below x1.heap.size x1 y) => HP1.out y (KK.out _ _ hx1 hy))
      have CP1 := Lib.hid (fun (y : World) (hy : Below x1.heap.size x1 y) => ((CP.out y (KK.out _ _ hx1 hy)).mono fun e z h => ⟨h.1, hy.trans (h.2.mono hy.size)⟩ : Calls Try.prog 21 #[.agg #[.int .i64 n, .slice pp pl pc]] y fun e z => e = .returned (.agg (arn 384 (patF pf pl))) ∧ Below x1.heap.size x1 z))
      obtain ⟨PV, hPV⟩ : ∃ PV, arn 384 (patF pf pl) = PV := ⟨_, rfl⟩
      rw [hPV] at CP1
      have HPE := Lib.hid hPV
      clear hPV
      go_wp2_with (with_reducible refine wp_store_fresh rfl 25 _ _ rfl V Y 25 rfl rfl HSW HYW HOO ?_; rw [HW1.out])
      refine wp_region_calm (S := fun y => Below x1.heap.size x1 y) 11 (by kernel_rfl) (by kernel_rfl) (Below.refl _ _).drew ?_
      simp only [List.take_succ_cons, List.take_zero, List.drop_succ_cons, List.drop_zero]
      refine calm_value (v := ?v0) (by kernel_rfl) ?m ?_; (case m => (intro x _; go_simp; try with_reducible rfl))
      simp only [Act.put, List.setIfInBounds_toArray, List.set_cons_zero, List.set_cons_succ]
      refine calm_value (v := ?v1) (by kernel_rfl) ?m ?_; (case m => (intro x _; go_simp; try with_reducible rfl))
      simp only [Act.put, List.setIfInBounds_toArray, List.set_cons_zero, List.set_cons_succ]
      refine calm_value (v := ?v2) (by kernel_rfl) ?m ?_; (case m => (intro x _; go_simp; try with_reducible rfl))
      simp only [Act.put, List.setIfInBounds_toArray, List.set_cons_zero, List.set_cons_succ]
      refine calm_value (v := ?v3) (by kernel_rfl) ?m ?_; (case m => (intro x _; go_simp; try with_reducible rfl))
      simp only [Act.put, List.setIfInBounds_toArray, List.set_cons_zero, List.set_cons_succ]
      refine calm_value (v := ?v4) (by kernel_rfl) ?m ?_; (case m => (intro x _; go_simp; try with_reducible rfl))
      simp only [Act.put, List.setIfInBounds_toArray, List.set_cons_zero, List.set_cons_succ]
      refine calm_cell 3 _ ⟨ob, oo + i * 2, none⟩ (.int .i64 n) (by kernel_rfl) rfl rfl (fun x hx => by have c0 := (HP2.out x hx); go_simp) ?_
      simp only [Act.put, List.setIfInBounds_toArray, List.set_cons_zero, List.set_cons_succ]
      refine calm_value (v := ?v6) (by kernel_rfl) ?m ?_; (case m => (intro x _; go_simp; try with_reducible rfl))
      simp only [Act.put, List.setIfInBounds_toArray, List.set_cons_zero, List.set_cons_succ]
      refine calm_value (v := ?v7) (by kernel_rfl) ?m ?_; (case m => (intro x _; go_simp; try with_reducible rfl))
      simp only [Act.put, List.setIfInBounds_toArray, List.set_cons_zero, List.set_cons_succ]
      refine calm_value (v := ?v8) (by kernel_rfl) ?m ?_; (case m => (intro x _; go_simp; try with_reducible rfl))
      simp only [Act.put, List.setIfInBounds_toArray, List.set_cons_zero, List.set_cons_succ]
      refine calm_value (v := .agg #[.int .i64 n, .slice pp pl pc]) (by kernel_rfl) ?m ?_; (case m => (intro x hx; have c0 := HP2.out x hx; have c1 := HP3.out x hx; go_simp; try with_reducible rfl))
      simp only [Act.put, List.setIfInBounds_toArray, List.set_cons_zero, List.set_cons_succ]
      refine calm_call (by kernel_rfl) CP1.out (fun _ => by kernel_rfl) ?_
      simp only [Act.put, List.setIfInBounds_toArray, List.set_cons_zero, List.set_cons_succ]
      refine calm_nil fun x2 hx2 => ?_
      by_cases hnr : 0 ≤ n ∧ n < (N : Int)
      · obtain ⟨m, hm⟩ : ∃ m : Nat, n = (m : Int) := ⟨n.toNat, by omega⟩
        have hmc : m < cells k := by rw [HNN.out]; omega
        have t4 : decide (n < 0) = false := decide_eq_false (by omega)
        have t5 : decide ((N : Int) ≤ n) = false := decide_eq_false (by omega)
        have HT2 := HT1.out.below HKF.out hx2
        have CY := lay_code k C B vc gc cf m (patF pf pl) x2 HT2.can.there HT2.can.own HT2.can.far hmc
        rw [HPE.out, ← hm] at CY
        have HMM := Lib.hid hm
        have HMC := Lib.hid hmc
        have hW2 := (hx2.block x.heap.size (Array.getElem?_eq_some_iff.1 HWB.out).1).trans HWB.out
        have hO2 := HOW.out.below (fun p _ => siz_some HKF.out p) hx2
        have hx2' := KK.out _ _ hx1 hx2
        have HT2' := Lib.hid HT2
        have HB2 : B ≤ x2.heap.size := by have := hx2'.size; have := HB.out; omega
        clear hm hmc HT2 hx2 hnr
        go_wp2_with fail
        refine CY.mono ?_
        rintro e x3 ⟨rfl, hK3, hO3⟩
        have HT3 := Lib.hid (HT2'.out.layC HKF.out hK3 hO3)
        have hx3 := hx2'.trans (hK3.to_below HB2 (fun p hp => HT2'.out.can.own.from_ p hp))
        have h3w : x3.heap[x.heap.size]? = some (.cells V 25 (0, 0)) := by
          rw [← HVE.out]
          exact (hK3.block _ (Array.getElem?_eq_some_iff.1 hW2).1 (fun p hp => HAP.out.2 p hp)).trans hW2
        have h3o := hO2.keep fun p hp => hK3.block _ ((hO2.pl p hp).lt (siz_some HKF.out p)) (fun q hq e => HAP.out.1 q p hq hp e.symm)
        have h3f : x3.heap[F]? = some (.cells X 25 (0, 0)) := by rw [← HXE.out]; exact HT3.out.there
        have CS := frsame_page k k vw vf (siz k) (siz k) cf cf x3 h3o.at HT3.out.own.at
        rw [sameF_self, HVE.out, HXE.out] at CS
        clear CY hW2 hO2 hx2' HT2' HB2 hK3 hO3 h3o
        go_wp2_with (first | (with_reducible refine wpList_load_row rfl 25 _ rfl x.heap.size rfl 25 V (0, 0) _ h3w Try.underlying25 rfl HSW ?_) | (with_reducible refine wpList_load_row rfl 25 _ rfl F rfl 25 X (0, 0) _ h3f Try.underlying25 rfl HSV ?_))
        refine CS.mono ?_
        rintro e x4 ⟨rfl, hb4⟩
        have hx4 := KK.out _ _ hx3 hb4
        have HT4 := Lib.hid (HT3.out.below HKF.out hb4)
        have HP4 := Lib.hid (fun (y : World) (hy : Below x4.heap.size x4 y) => HP0.out y (KK.out _ _ hx4 hy))
        have HP5 := Lib.hid (fun (y : World) (hy : Below x4.heap.size x4 y) => HP1.out y (KK.out _ _ hx4 hy))
        have CM := Lib.hid (fun (y : World) (hy : Below x4.heap.size x4 y) => ((HM.out y).mono fun e z h => ⟨h.1, hy.trans (h.2.mono hy.size)⟩ : Calls Try.prog 14 #[.int .i64 k] y fun e z => e = .returned (.int .i64 (N : Int)) ∧ Below x4.heap.size x4 z))
        clear hb4 h3w h3f CS
        go_wp2
        refine wp_region_calm (S := fun y => Below x4.heap.size x4 y) 16 (by kernel_rfl) (by kernel_rfl) (Below.refl _ _).drew ?_
        simp only [List.take_succ_cons, List.take_zero, List.drop_succ_cons, List.drop_zero]
        refine calm_value (v := ?vq0) (by kernel_rfl) ?m ?_; (case m => (intro x _; go_simp; try with_reducible rfl))
        simp only [Act.put, List.setIfInBounds_toArray, List.set_cons_zero, List.set_cons_succ]
        refine calm_value (v := ?vq1) (by kernel_rfl) ?m ?_; (case m => (intro x _; go_simp; try with_reducible rfl))
        simp only [Act.put, List.setIfInBounds_toArray, List.set_cons_zero, List.set_cons_succ]
        refine calm_value (v := ?vq2) (by kernel_rfl) ?m ?_; (case m => (intro x _; go_simp; try with_reducible rfl))
        simp only [Act.put, List.setIfInBounds_toArray, List.set_cons_zero, List.set_cons_succ]
        refine calm_value (v := ?vq3) (by kernel_rfl) ?m ?_; (case m => (intro x _; go_simp; try with_reducible rfl))
        simp only [Act.put, List.setIfInBounds_toArray, List.set_cons_zero, List.set_cons_succ]
        refine calm_cell 3 _ ⟨ob, oo + i * 2, none⟩ (.int .i64 n) (by kernel_rfl) rfl rfl (fun x hx => by have c0 := (HP4.out x hx); go_simp) ?_
        simp only [Act.put, List.setIfInBounds_toArray, List.set_cons_zero, List.set_cons_succ]
        refine calm_value (v := ?vq5) (by kernel_rfl) ?m ?_; (case m => (intro x _; go_simp; try with_reducible rfl))
        simp only [Act.put, List.setIfInBounds_toArray, List.set_cons_zero, List.set_cons_succ]
        refine calm_value (v := ?vq6) (by kernel_rfl) ?m ?_; (case m => (intro x _; go_simp; try with_reducible rfl))
        simp only [Act.put, List.setIfInBounds_toArray, List.set_cons_zero, List.set_cons_succ]
        refine calm_value (v := ?vq7) (by kernel_rfl) ?m ?_; (case m => (intro x _; go_simp; try with_reducible rfl))
        simp only [Act.put, List.setIfInBounds_toArray, List.set_cons_zero, List.set_cons_succ]
        refine calm_value (v := ?vq8) (by kernel_rfl) ?m ?_; (case m => (intro x _; go_simp; try with_reducible rfl))
        simp only [Act.put, List.setIfInBounds_toArray, List.set_cons_zero, List.set_cons_succ]
        refine calm_value (v := ?vq9) (by kernel_rfl) ?m ?_; (case m => (intro x _; go_simp; try with_reducible rfl))
        simp only [Act.put, List.setIfInBounds_toArray, List.set_cons_zero, List.set_cons_succ]
        refine calm_value (v := ?vq10) (by kernel_rfl) ?m ?_; (case m => (intro x _; go_simp; try with_reducible rfl))
        simp only [Act.put, List.setIfInBounds_toArray, List.set_cons_zero, List.set_cons_succ]
        refine calm_cell 3 _ ⟨ob, oo + i * 2, none⟩ (.int .i64 n) (by kernel_rfl) rfl rfl (fun x hx => by have c0 := (HP4.out x hx); go_simp) ?_
        simp only [Act.put, List.setIfInBounds_toArray, List.set_cons_zero, List.set_cons_succ]
        refine calm_value (v := ?vq12) (by kernel_rfl) ?m ?_; (case m => (intro x _; go_simp; try with_reducible rfl))
        simp only [Act.put, List.setIfInBounds_toArray, List.set_cons_zero, List.set_cons_succ]
        refine calm_call (by kernel_rfl) CM.out (fun _ => by kernel_rfl) ?_
        simp only [Act.put, List.setIfInBounds_toArray, List.set_cons_zero, List.set_cons_succ]
        refine calm_value (v := ?vq14) (by kernel_rfl) ?m ?_; (case m => (intro x _; go_simp; try with_reducible rfl))
        simp only [Act.put, List.setIfInBounds_toArray, List.set_cons_zero, List.set_cons_succ]
        refine calm_value (v := ?vq15) (by kernel_rfl) ?m ?_; (case m => (intro x _; go_simp; try with_reducible rfl))
        simp only [Act.put, List.setIfInBounds_toArray, List.set_cons_zero, List.set_cons_succ]
        refine calm_nil fun x5 hx5 => ?_
        have HT5 := Lib.hid (HT4.out.below HKF.out hx5)
        have hx5' := KK.out _ _ hx4 hx5
        have HP6 := Lib.hid (fun (y : World) (hy : Below x5.heap.size x5 y) => HP0.out y (KK.out _ _ hx5' hy))
        have HP7 := Lib.hid (fun (y : World) (hy : Below x5.heap.size x5 y) => HP1.out y (KK.out _ _ hx5' hy))
        have CP2 := Lib.hid (fun (y : World) (hy : Below x5.heap.size x5 y) => ((CP.out y (KK.out _ _ hx5' hy)).mono fun e z h => ⟨by rw [h.1, HPE.out], hy.trans (h.2.mono hy.size)⟩ : Calls Try.prog 21 #[.agg #[.int .i64 n, .slice pp pl pc]] y fun e z => e = .returned (.agg PV) ∧ Below x5.heap.size x5 z))
        have HXF := Lib.hid (fun (y : World) (hy : Below x5.heap.size x5 y) => (by rw [← HXE.out]; exact (HT5.out.below HKF.out hy).there : y.heap[F]? = some (.cells X 25 (0, 0))))
        clear hx5 HP4 HP5 CM HT4 hx4
        go_wp2
        refine wp_region_calm (S := fun y => Below x5.heap.size x5 y) 11 (by kernel_rfl) (by kernel_rfl) (Below.refl _ _).drew ?_
        simp only [List.take_succ_cons, List.take_zero, List.drop_succ_cons, List.drop_zero]
        refine calm_load 25 _ F 25 X (0, 0) _ (by kernel_rfl) rfl rfl (fun x hx => HXF.out x hx) Try.underlying25 rfl HSV ?_
        simp only [Act.put, List.setIfInBounds_toArray, List.set_cons_zero, List.set_cons_succ]
        refine calm_value (v := ?vr1) (by kernel_rfl) ?m ?_; (case m => (intro x _; go_simp; try with_reducible rfl))
        simp only [Act.put, List.setIfInBounds_toArray, List.set_cons_zero, List.set_cons_succ]
        refine calm_value (v := ?vr2) (by kernel_rfl) ?m ?_; (case m => (intro x _; go_simp; try with_reducible rfl))
        simp only [Act.put, List.setIfInBounds_toArray, List.set_cons_zero, List.set_cons_succ]
        refine calm_value (v := ?vr3) (by kernel_rfl) ?m ?_; (case m => (intro x _; go_simp; try with_reducible rfl))
        simp only [Act.put, List.setIfInBounds_toArray, List.set_cons_zero, List.set_cons_succ]
        refine calm_value (v := ?vr4) (by kernel_rfl) ?m ?_; (case m => (intro x _; go_simp; try with_reducible rfl))
        simp only [Act.put, List.setIfInBounds_toArray, List.set_cons_zero, List.set_cons_succ]
        refine calm_cell 3 _ ⟨ob, oo + i * 2, none⟩ (.int .i64 n) (by kernel_rfl) rfl rfl (fun x hx => by have c0 := (HP6.out x hx); go_simp) ?_
        simp only [Act.put, List.setIfInBounds_toArray, List.set_cons_zero, List.set_cons_succ]
        refine calm_value (v := ?vr6) (by kernel_rfl) ?m ?_; (case m => (intro x _; go_simp; try with_reducible rfl))
        simp only [Act.put, List.setIfInBounds_toArray, List.set_cons_zero, List.set_cons_succ]
        refine calm_value (v := ?vr7) (by kernel_rfl) ?m ?_; (case m => (intro x _; go_simp; try with_reducible rfl))
        simp only [Act.put, List.setIfInBounds_toArray, List.set_cons_zero, List.set_cons_succ]
        refine calm_value (v := ?vr8) (by kernel_rfl) ?m ?_; (case m => (intro x _; go_simp; try with_reducible rfl))
        simp only [Act.put, List.setIfInBounds_toArray, List.set_cons_zero, List.set_cons_succ]
        refine calm_value (v := .agg #[.int .i64 n, .slice pp pl pc]) (by kernel_rfl) ?m ?_; (case m => (intro x hx; have c0 := HP6.out x hx; have c1 := HP7.out x hx; go_simp; try with_reducible rfl))
        simp only [Act.put, List.setIfInBounds_toArray, List.set_cons_zero, List.set_cons_succ]
        refine calm_call (by kernel_rfl) CP2.out (fun _ => by kernel_rfl) ?_
        simp only [Act.put, List.setIfInBounds_toArray, List.set_cons_zero, List.set_cons_succ]
        refine calm_nil fun x6 hx6 => ?_
        have HT6 := HT5.out.below HKF.out hx6
        have hx6' := KK.out _ _ hx5' hx6
        have CZ := lay_page k B vf gf cf m (patF pf pl) x6 HT6.own HMC.out
        rw [HPE.out, HXE.out, ← HMM.out] at CZ
        have HB6 : B ≤ x6.heap.size := by have := hx6'.size; have := HB.out; omega
        have HT7 := Lib.hid HT6
        clear HT6 hx6
        go_wp2_with fail
        refine CZ.mono ?_
        rintro e x7 ⟨rfl, hK7, hO7⟩
        have hx7 := hx6'.trans (hK7.to_below HB6 (fun p hp => HT7.out.own.from_ p hp))
        have REL := Lib.hid (HT7.out.layF HKF.out hK7 hO7)
        clear hK7 hO7 hx6' hx5' HXF CP2 HP6 HP7 CZ HB6
        go_wp2
        go_roundw
        case rel => exact ⟨i + 1, _, by omega, by go_num, REL, hx7⟩
        case measure => simp [RowKit.intOf]; omega
      · have hnn : n < 0 ∨ (N : Int) ≤ n := by omega
        have HT2 := HT1.out.below HKF.out hx2
        have CY := lay_none k C vc n (patF pf pl) x2 HT2.can.there (HNO.out n hnn)
        rw [HPE.out] at CY
        have hW2 := (hx2.block x.heap.size (Array.getElem?_eq_some_iff.1 HWB.out).1).trans HWB.out
        have hO2 := HOW.out.below (fun p _ => siz_some HKF.out p) hx2
        have hx2' := KK.out _ _ hx1 hx2
        have HT2' := Lib.hid HT2
        clear HT2 hx2 hnr
        go_wp2_with fail
        refine CY.mono ?_
        rintro e x3 ⟨rfl, hb3⟩
        have HT3 := Lib.hid (HT2'.out.below HKF.out hb3)
        have hx3 := KK.out _ _ hx2' hb3
        have h3w : x3.heap[x.heap.size]? = some (.cells V 25 (0, 0)) := by
          rw [← HVE.out]
          exact (hb3.block _ (Array.getElem?_eq_some_iff.1 hW2).1).trans hW2
        have h3o := hO2.below (fun p _ => siz_some HKF.out p) hb3
        have h3f : x3.heap[F]? = some (.cells X 25 (0, 0)) := by rw [← HXE.out]; exact HT3.out.there
        have CS := frsame_page k k vw vf (siz k) (siz k) cf cf x3 h3o.at HT3.out.own.at
        rw [sameF_self, HVE.out, HXE.out] at CS
        clear CY hW2 hO2 hx2' HT2' hb3 h3o
        go_wp2_with (first | (with_reducible refine wpList_load_row rfl 25 _ rfl x.heap.size rfl 25 V (0, 0) _ h3w Try.underlying25 rfl HSW ?_) | (with_reducible refine wpList_load_row rfl 25 _ rfl F rfl 25 X (0, 0) _ h3f Try.underlying25 rfl HSV ?_))
        refine CS.mono ?_
        rintro e x4 ⟨rfl, hb4⟩
        have hx4 := KK.out _ _ hx3 hb4
        have HT4 := Lib.hid (HT3.out.below HKF.out hb4)
        have HP4 := Lib.hid (fun (y : World) (hy : Below x4.heap.size x4 y) => HP0.out y (KK.out _ _ hx4 hy))
        have HP5 := Lib.hid (fun (y : World) (hy : Below x4.heap.size x4 y) => HP1.out y (KK.out _ _ hx4 hy))
        have CM := Lib.hid (fun (y : World) (hy : Below x4.heap.size x4 y) => ((HM.out y).mono fun e z h => ⟨h.1, hy.trans (h.2.mono hy.size)⟩ : Calls Try.prog 14 #[.int .i64 k] y fun e z => e = .returned (.int .i64 (N : Int)) ∧ Below x4.heap.size x4 z))
        clear hb4 h3w h3f CS
        go_wp2
        rcases hnn with hn0 | hnN
        · have t4 : decide (n < 0) = true := decide_eq_true hn0
          refine wp_region_calm (S := fun y => Below x4.heap.size x4 y) 16 (by kernel_rfl) (by kernel_rfl) (Below.refl _ _).drew ?_
          simp only [List.take_succ_cons, List.take_zero, List.drop_succ_cons, List.drop_zero]
          refine calm_value (v := ?vs0) (by kernel_rfl) ?m ?_; (case m => (intro x _; go_simp; try with_reducible rfl))
          simp only [Act.put, List.setIfInBounds_toArray, List.set_cons_zero, List.set_cons_succ]
          refine calm_value (v := ?vs1) (by kernel_rfl) ?m ?_; (case m => (intro x _; go_simp; try with_reducible rfl))
          simp only [Act.put, List.setIfInBounds_toArray, List.set_cons_zero, List.set_cons_succ]
          refine calm_value (v := ?vs2) (by kernel_rfl) ?m ?_; (case m => (intro x _; go_simp; try with_reducible rfl))
          simp only [Act.put, List.setIfInBounds_toArray, List.set_cons_zero, List.set_cons_succ]
          refine calm_value (v := ?vs3) (by kernel_rfl) ?m ?_; (case m => (intro x _; go_simp; try with_reducible rfl))
          simp only [Act.put, List.setIfInBounds_toArray, List.set_cons_zero, List.set_cons_succ]
          refine calm_cell 3 _ ⟨ob, oo + i * 2, none⟩ (.int .i64 n) (by kernel_rfl) rfl rfl (fun x hx => by have c0 := (HP4.out x hx); go_simp) ?_
          simp only [Act.put, List.setIfInBounds_toArray, List.set_cons_zero, List.set_cons_succ]
          refine calm_value (v := ?vs5) (by kernel_rfl) ?m ?_; (case m => (intro x _; go_simp; try with_reducible rfl))
          simp only [Act.put, List.setIfInBounds_toArray, List.set_cons_zero, List.set_cons_succ]
          refine calm_value (v := ?vs6) (by kernel_rfl) ?m ?_; (case m => (intro x _; go_simp; try with_reducible rfl))
          simp only [Act.put, List.setIfInBounds_toArray, List.set_cons_zero, List.set_cons_succ]
          refine calm_not (by kernel_rfl) ?_
          simp only [Act.put, List.setIfInBounds_toArray, List.set_cons_zero, List.set_cons_succ]
          refine calm_not (by kernel_rfl) ?_
          simp only [Act.put, List.setIfInBounds_toArray, List.set_cons_zero, List.set_cons_succ]
          refine calm_not (by kernel_rfl) ?_
          simp only [Act.put, List.setIfInBounds_toArray, List.set_cons_zero, List.set_cons_succ]
          refine calm_not (by kernel_rfl) ?_
          simp only [Act.put, List.setIfInBounds_toArray, List.set_cons_zero, List.set_cons_succ]
          refine calm_not (by kernel_rfl) ?_
          simp only [Act.put, List.setIfInBounds_toArray, List.set_cons_zero, List.set_cons_succ]
          refine calm_not (by kernel_rfl) ?_
          simp only [Act.put, List.setIfInBounds_toArray, List.set_cons_zero, List.set_cons_succ]
          refine calm_not (by kernel_rfl) ?_
          simp only [Act.put, List.setIfInBounds_toArray, List.set_cons_zero, List.set_cons_succ]
          refine calm_not (by kernel_rfl) ?_
          simp only [Act.put, List.setIfInBounds_toArray, List.set_cons_zero, List.set_cons_succ]
          refine calm_value (v := ?vs15) (by kernel_rfl) ?m ?_; (case m => (intro x _; go_simp; try with_reducible rfl))
          simp only [Act.put, List.setIfInBounds_toArray, List.set_cons_zero, List.set_cons_succ]
          refine calm_nil fun x5 hx5 => ?_
          have hx5' := KK.out _ _ hx4 hx5
          have REL := Lib.hid (HT4.out.below HKF.out hx5)
          clear hx5 HP4 HP5 CM HT4 hx4
          go_wp2
          go_roundw
          case rel => exact ⟨i + 1, _, by omega, by go_num, REL, hx5'⟩
          case measure => simp [RowKit.intOf]; omega
        · have t4 : decide (n < 0) = false := decide_eq_false (by omega)
          have t5 : decide ((N : Int) ≤ n) = true := decide_eq_true hnN
          refine wp_region_calm (S := fun y => Below x4.heap.size x4 y) 16 (by kernel_rfl) (by kernel_rfl) (Below.refl _ _).drew ?_
          simp only [List.take_succ_cons, List.take_zero, List.drop_succ_cons, List.drop_zero]
          refine calm_value (v := ?vu0) (by kernel_rfl) ?m ?_; (case m => (intro x _; go_simp; try with_reducible rfl))
          simp only [Act.put, List.setIfInBounds_toArray, List.set_cons_zero, List.set_cons_succ]
          refine calm_value (v := ?vu1) (by kernel_rfl) ?m ?_; (case m => (intro x _; go_simp; try with_reducible rfl))
          simp only [Act.put, List.setIfInBounds_toArray, List.set_cons_zero, List.set_cons_succ]
          refine calm_value (v := ?vu2) (by kernel_rfl) ?m ?_; (case m => (intro x _; go_simp; try with_reducible rfl))
          simp only [Act.put, List.setIfInBounds_toArray, List.set_cons_zero, List.set_cons_succ]
          refine calm_value (v := ?vu3) (by kernel_rfl) ?m ?_; (case m => (intro x _; go_simp; try with_reducible rfl))
          simp only [Act.put, List.setIfInBounds_toArray, List.set_cons_zero, List.set_cons_succ]
          refine calm_cell 3 _ ⟨ob, oo + i * 2, none⟩ (.int .i64 n) (by kernel_rfl) rfl rfl (fun x hx => by have c0 := (HP4.out x hx); go_simp) ?_
          simp only [Act.put, List.setIfInBounds_toArray, List.set_cons_zero, List.set_cons_succ]
          refine calm_value (v := ?vu5) (by kernel_rfl) ?m ?_; (case m => (intro x _; go_simp; try with_reducible rfl))
          simp only [Act.put, List.setIfInBounds_toArray, List.set_cons_zero, List.set_cons_succ]
          refine calm_value (v := ?vu6) (by kernel_rfl) ?m ?_; (case m => (intro x _; go_simp; try with_reducible rfl))
          simp only [Act.put, List.setIfInBounds_toArray, List.set_cons_zero, List.set_cons_succ]
          refine calm_value (v := ?vu7) (by kernel_rfl) ?m ?_; (case m => (intro x _; go_simp; try with_reducible rfl))
          simp only [Act.put, List.setIfInBounds_toArray, List.set_cons_zero, List.set_cons_succ]
          refine calm_value (v := ?vu8) (by kernel_rfl) ?m ?_; (case m => (intro x _; go_simp; try with_reducible rfl))
          simp only [Act.put, List.setIfInBounds_toArray, List.set_cons_zero, List.set_cons_succ]
          refine calm_value (v := ?vu9) (by kernel_rfl) ?m ?_; (case m => (intro x _; go_simp; try with_reducible rfl))
          simp only [Act.put, List.setIfInBounds_toArray, List.set_cons_zero, List.set_cons_succ]
          refine calm_value (v := ?vu10) (by kernel_rfl) ?m ?_; (case m => (intro x _; go_simp; try with_reducible rfl))
          simp only [Act.put, List.setIfInBounds_toArray, List.set_cons_zero, List.set_cons_succ]
          refine calm_cell 3 _ ⟨ob, oo + i * 2, none⟩ (.int .i64 n) (by kernel_rfl) rfl rfl (fun x hx => by have c0 := (HP4.out x hx); go_simp) ?_
          simp only [Act.put, List.setIfInBounds_toArray, List.set_cons_zero, List.set_cons_succ]
          refine calm_value (v := ?vu12) (by kernel_rfl) ?m ?_; (case m => (intro x _; go_simp; try with_reducible rfl))
          simp only [Act.put, List.setIfInBounds_toArray, List.set_cons_zero, List.set_cons_succ]
          refine calm_call (by kernel_rfl) CM.out (fun _ => by kernel_rfl) ?_
          simp only [Act.put, List.setIfInBounds_toArray, List.set_cons_zero, List.set_cons_succ]
          refine calm_value (v := ?vu14) (by kernel_rfl) ?m ?_; (case m => (intro x _; go_simp; try with_reducible rfl))
          simp only [Act.put, List.setIfInBounds_toArray, List.set_cons_zero, List.set_cons_succ]
          refine calm_value (v := ?vu15) (by kernel_rfl) ?m ?_; (case m => (intro x _; go_simp; try with_reducible rfl))
          simp only [Act.put, List.setIfInBounds_toArray, List.set_cons_zero, List.set_cons_succ]
          refine calm_nil fun x5 hx5 => ?_
          have hx5' := KK.out _ _ hx4 hx5
          have REL := Lib.hid (HT4.out.below HKF.out hx5)
          clear hx5 HP4 HP5 CM HT4 hx4
          go_wp2
          go_roundw
          case rel => exact ⟨i + 1, _, by omega, by go_num, REL, hx5'⟩
          case measure => simp [RowKit.intOf]; omega
    · obtain rfl : i = len := by omega
      have t3 : decide ((i : Int) < (i : Int)) = false := decide_eq_false (by omega)
      have HXG := Lib.hid (fun (y : World) (hy : Below wr.heap.size wr y) => (by rw [← HXE.out]; exact (HTC.out.below HKF.out hy).there : y.heap[F]? = some (.cells X 25 (0, 0))))
      have HCD := (HTC.out.below HKF.out (Below.refl wr.heap.size wr).drew).can
      go_wp2
      refine wp_region_held_drew (S := (fun x => Below wr.heap.size wr x)) (by kernel_rfl) (Below.refl _ _).drew (fun hH => ?_)
      refine held_take 0 (some 132) (v := ?_) rfl rfl (by kernel_rfl) (by kernel_rfl) (by kernel_rfl) (fun _ _ _ h => h) hH (Or.inl ⟨by kernel_rfl, ?_⟩) ?_
      rotate_left
      · (intro x _; go_simp; try with_reducible rfl)
      rotate_right
      try simp only [Act.put, List.setIfInBounds_toArray, List.set_cons_zero, List.set_cons_succ]
      refine held_take 2 (some 134) (v := .agg X) rfl rfl (by kernel_rfl) (by kernel_rfl) (by kernel_rfl) (fun _ _ _ h => h) hH (Or.inl ⟨by kernel_rfl, fun x hx => exec_load (ty := 25) (x := .tmp 9) (ad := ⟨F, 0, none⟩) (by kernel_rfl) (by kernel_rfl) (run_loadVar_row x (F) _ _ X (0, 0) _ (HXG.out x hx) Try.underlying25 rfl HSV)⟩) ?_
      try simp only [Act.put, List.setIfInBounds_toArray, List.set_cons_zero, List.set_cons_succ]
      refine wpAnyH_ready (rs := [1]) (by kernel_rfl) (by simp) ?_
      refine AllReadyH.cons rfl (fun K hK => ?_) AllReadyH.nil
      go_simp
      go_wp2_with fail
      refine (frame_code k B C vc gc cf _ HKF.out HCD).mono ?_
      rintro e x6 ⟨v2, g2, rfl, hO2, hb6⟩
      refine hK.out _ _ (hH.trans (hb6.mono hH.size)) (fun hH2 => ?_)
      clear hK K hH
      have hH := hH2
      clear hH2
      try simp only [Act.put, List.setIfInBounds_toArray, List.set_cons_zero, List.set_cons_succ]
      refine wpAnyH_ready (rs := [3]) (by kernel_rfl) (by simp) ?_
      refine AllReadyH.cons rfl (fun K hK => ?_) AllReadyH.nil
      go_simp
      go_wp2_with fail
      have C6 := frsame_page k k v2 vf (siz k) (siz k) cf cf x6 hO2.at (HTC.out.below HKF.out hH).own.at
      rw [HXE.out, sameF_self] at C6
      refine C6.mono ?_
      rintro e x7 ⟨rfl, hb7⟩
      refine hK.out _ _ (hH.trans (hb7.mono hH.size)) (fun hH2 => ?_)
      clear hK K hH
      have hH := hH2
      clear hH2
      try simp only [Act.put, List.setIfInBounds_toArray, List.set_cons_zero, List.set_cons_succ]
      refine held_take 4 (some 136) (v := ?_) rfl rfl (by kernel_rfl) (by kernel_rfl) (by kernel_rfl) (fun _ _ _ h => h) hH (Or.inl ⟨by kernel_rfl, ?_⟩) ?_
      rotate_left
      · (intro x _; go_simp; try with_reducible rfl)
      rotate_right
      try simp only [Act.put, List.setIfInBounds_toArray, List.set_cons_zero, List.set_cons_succ]
      refine wpAnyH_ready (rs := [5]) (by kernel_rfl) (by simp) ?_
      refine AllReadyH.cons rfl (fun K hK => ?_) AllReadyH.nil
      go_simp
      go_wp2_with fail
      refine (lives17 _).mono ?_
      rintro e x8 ⟨rfl, hb8⟩
      refine hK.out _ _ (hH.trans (hb8.mono hH.size)) (fun hH2 => ?_)
      clear hK K hH
      have hH := hH2
      clear hH2
      try simp only [Act.put, List.setIfInBounds_toArray, List.set_cons_zero, List.set_cons_succ]
      refine held_take 6 (some 138) (v := ?_) rfl rfl (by kernel_rfl) (by kernel_rfl) (by kernel_rfl) (fun _ _ _ h => h) hH (Or.inl ⟨by kernel_rfl, ?_⟩) ?_
      rotate_left
      · (intro x _; go_simp; try with_reducible rfl)
      rotate_right
      try simp only [Act.put, List.setIfInBounds_toArray, List.set_cons_zero, List.set_cons_succ]
      refine held_take 7 (some 4) (v := ?_) rfl rfl (by kernel_rfl) (by kernel_rfl) (by kernel_rfl) (fun _ _ _ h => h) hH (Or.inl ⟨by kernel_rfl, ?_⟩) ?_
      rotate_left
      · (intro x _; go_simp; try with_reducible rfl)
      rotate_right
      try simp only [Act.put, List.setIfInBounds_toArray, List.set_cons_zero, List.set_cons_succ]
      refine wpAnyH_done (by kernel_rfl) ?_ _
      have hend := KK.out _ _ hS hH
      go_wp2
      go_ret
      exact ⟨rfl, hend⟩
end Go.Proofs.Ytmmgbnjfbapmcaa
