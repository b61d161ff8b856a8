/- Texts that CellinSame's proof stands on, part 35 of 35. No condition of its own. -/
import Derived.Test.YtbgncbhkjndelaaGreatDoorCellinSameMw
import Derived.Test.YtbgncbhkjndelaaGreatDoorCellinSameMy
import Derived.Test.YtbgncbhkjndelaaGreatDoorCellinSameMba
import Derived.Test.YtbgncbhkjndelaaGreatDoorCellinSameMbc
import Derived.Test.YtbgncbhkjndelaaGreatDoorCellinSameMbd
import Derived.Test.YtbgncbhkjndelaaGreatDoorCellinSameMbg
import Derived.Test.YtbgncbhkjndelaaGreatDoorCellinSameMbh
namespace Go.Proofs.YtbgncbhkjndelaaGreatDoor
open Go.RowKit Go.Lib
theorem Moved.lone {a b : Nat} {w x : World} (h : Moved a b w x) (hb : w.heap.size ≤ b) : w.grownBy x (some a) :=
 ⟨h.os, h.tape, h.output, h.size, fun k hk hn => h.block k hk (fun e => hn (by rw [e])) (by omega)⟩
def CtakeGives (inter : Bool) (s : ByteArray) (rb : Nat) (x y : Int) (p : Nat) (w : World) (e : Ending) (w' : World) : Prop :=
 ∃ (c : Cel) (q : Nat) (f : Int) (sl : Nat → Value), ctk inter (showL s.data.toList) x y p = (c, q, f) ∧ e = .returned (.tuple #[.agg (celL c sl).toArray, .int .i64 f]) ∧ (∀ i, i < 6 → SlAt w' w.heap.size (sl i) (c.ev i)) ∧ IsRd w' rb s q ∧ w.grownBy w' (some rb)
set_option maxRecDepth 100000 in
set_option maxHeartbeats 2000000 in
theorem ctake_code {N : Nat} {w : World} {rb : Nat} {s : ByteArray} {p : Nat} (inter : Bool) (x y : Int) (ht : TabsLo N w) (hN : N ≤ rb) (hr : IsRd w rb s p) :
  Calls Tryz.prog 8 #[.pointer (some ⟨rb, 0, none⟩), .bool inter, .agg #[.int .i64 x, .int .i64 y]] w (CtakeGives inter s rb x y p w) := by
 obtain ⟨Y, hY⟩ : ∃ Y : Array Value, (celL celZ nilS).toArray = Y := ⟨_, rfl⟩
 have hzv : ∀ w, (zeroValue 34).run Tryz.prog w = .ok (.agg Y) w := by rw [← hY]; exact cel_zero
 have HSY : (Tryz.prog.info? 34).map (·.size) = some Y.size := hY ▸ cel_size _ _
 have HOY : Y.all (·.oneCell') = true := hY ▸ cel_one _ _ fun _ _ => rfl
 obtain ⟨A, wA, wB, wC, hA, hwA, hwB, hwC, hzA, hzB, hzC, hC0, hC1, hC2, hbC⟩ := laid3 w (.cells #[.int .i64 x, .int .i64 y] 24 (0, 0)) (.cells Y 34 (0, 0)) (.cells #[.pointer (some ⟨rb, 0, none⟩), .int .i64 0] 46 (0, 0))
 have hrA : rb < A := hA ▸ hr.lt
 have hrC : IsRd wC rb s p := hr.under hbC hrA
 have hps := hr.2.1
 have RD : RdAt wC (A + 2) rb s (p, 0) := ⟨hC2, hrC, by omega⟩
 have p0 : wC.cell? ⟨A, 0, none⟩ = some (.int .i64 x) := part_cells (cs := [.int .i64 x, .int .i64 y]) hC0 rfl
 have p1 : wC.cell? ⟨A, 1, none⟩ = some (.int .i64 y) := part_cells (cs := [.int .i64 x, .int .i64 y]) hC0 rfl
 have r0 : wC.cell? ⟨A + 2, 0, none⟩ = some (.pointer (some ⟨rb, 0, none⟩)) := part_cells (cs := [.pointer (some ⟨rb, 0, none⟩), .int .i64 0]) hC2 rfl
 have cc := cell_code (N := N) inter x y (ht.below (hbC.mono (by omega))) hN RD
 have HY := Lib.hid hY
 have HA := Lib.hid hA
 have HWA := Lib.hid hwA
 have HWB := Lib.hid hwB
 have HWC := Lib.hid hwC
 have HBC := Lib.hid hbC
 have HZA := Lib.hid hzA
 have HC1 := Lib.hid hC1
 clear hY hA hwA hwB hwC hbC hzA hC1 hC0 hC2 RD ht hr hN
 go_enter Tryz.func8, Tryz.ntmps8
 go_wp2_with fail
 rw [HWA.out, HA.out, HWB.out, HWC.out]
 refine (at_code _ _ _ _ hrC).mono ?_
 rintro e w0 ⟨rfl, rfl⟩
 go_wp2_with fail
 refine cc.mono ?_
 rintro e w1 ⟨c, st1, sl, hcel, rfl, hsl, hr1, hm1⟩
 obtain ⟨Z, hZ⟩ : ∃ Z, (celL c sl).toArray = Z := ⟨_, rfl⟩
 rw [hZ]
 obtain ⟨C, hC⟩ : ∃ C, w1.heap.size = C := ⟨_, rfl⟩
 obtain ⟨w2, hw2⟩ : ∃ z, w1.alloc (.cells Z 34 (0, 0)) = z := ⟨_, rfl⟩
 have hb2 : Below C w1 w2 := by rw [← hw2, ← hC]; exact (Below.refl _ w1).alloc (Nat.le_refl _) _
 have hz1 := hm1.size
 have hr2 := hr1.under hb2 (by omega)
 have hcZ : w2.heap[C]? = some (.cells Z 34 (0, 0)) := by rw [← hw2, ← hC]; exact heap_alloc_new w1 _
 have hcR : w2.heap[A + 1]? = some (.cells Y 34 (0, 0)) := (hb2.block (A + 1) (by omega)).trans ((hm1.block (A + 1) (by omega) (by omega) (by omega)).trans HC1.out)
 have hz2 : C < w2.heap.size := by rw [← hw2, ← hC]; simp
 have HSZ : (Tryz.prog.info? 34).map (·.size) = some Z.size := hZ ▸ cel_size _ _
 have HYZ : Y.size = Z.size := by rw [← hZ, ← HY.out]; rfl
 have HONE : Z.all (·.oneCell') = true := hZ ▸ cel_one _ _ fun i hi => (hsl i hi).one
 have hg2 : w.grownBy w2 (some rb) := by
  have h1 : Moved rb (A + 2) w w1 := ((Moved.refl rb (A + 2) w).onto HBC.out (Nat.le_of_eq HA.out)).trans hm1
  exact (h1.onto hb2 (by have := h1.size; omega)).lone (by have := HA.out; omega)
 have hsl2 : ∀ i, i < 6 → SlAt w2 (A + 2) (sl i) (c.ev i) := fun i hi => ((hsl i hi).from (by omega)).below (hC ▸ hb2)
 have HZ := Lib.hid hZ
 have HC := Lib.hid hC
 have HW2 := Lib.hid hw2
 have HCEL := Lib.hid hcel
 have HSL := Lib.hid hsl2
 have w1c := part_cells (o := 1) hr2.1 rfl
 have w1p := part_cells (o := 0) hr2.1 rfl
 obtain ⟨q, f⟩ := st1
 simp only at w1c w1p
 have h2A : A + 3 ≤ C := by omega
 clear hZ hC hw2 hcel hsl hsl2 hm1 hr1 hb2 cc hz1
 by_cases hf : f = 0
 ·subst hf
  go_wp2_with (first | (with_reducible refine wp_store_fresh rfl 34 _ _ rfl Z Y 34 rfl rfl HSZ HYZ HONE ?_; rw [HW2.out, HC.out]) | (with_reducible refine wpList_load_row rfl 34 _ rfl C rfl 34 Z (0, 0) _ hcZ Tryz.underlying34 rfl HSZ ?_) | (with_reducible refine wp_store_arr rfl 34 _ _ rfl (A + 1) Z Y rfl rfl 34 hcR HSZ HYZ HONE ?_; intro w5 hh5 hg5))
  refine bodyPost_ret (results_pair rfl _ _ (A + 1) 34 _ (0, 0) _ rfl hh5 Tryz.underlying34 rfl HSZ) rfl ?_
  have hb5 := below_set hg5 (by omega)
  exact ⟨c, q, 0, sl, cel_right HCEL.out, by rw [HZ.out]; rfl, fun i hi => ((HSL.out i hi).moved (Moved.grown hg5 (.inl rfl) : Moved (A + 1) (A + 1) _ _) (by omega) (by omega)).from (by have := HA.out; omega), hr2.2.1.under hb5 (by omega), ⟨hb5.os.trans hg2.os, hb5.tape.trans hg2.tape, hb5.output.trans hg2.output, Nat.le_trans hg2.size hb5.size, fun k hk hn => (hb5.block k (by have := HA.out; omega)).trans (hg2.block k hk hn)⟩⟩
 ·have g0 : (f != 0) = true := by simpa using hf
  have HF := Lib.hid hf
  clear hf
  go_wp2_with (with_reducible refine wp_store_fresh rfl 34 _ _ rfl Z Y 34 rfl rfl HSZ HYZ HONE ?_; rw [HW2.out, HC.out])
  refine (seek_code _ _ _ _ (p : Int) hr2.2.1 (by omega) (by omega)).mono ?_
  rintro e w3 ⟨rfl, hr3, hg3⟩
  rw [Int.toNat_natCast] at hr3
  have hcR3 := (hg3.block (A + 1) (by omega) (by simp; omega)).trans hcR
  have w3c := (World.cell?_of_block (a := ⟨A + 2, 1, none⟩) (hg3.block (A + 2) (by omega) (by simp; omega))).trans w1c
  have hz3 := hg3.size
  go_wp2
  refine wp_region_held_drew (S := (fun z => z.cell? ⟨A + 2, 1, none⟩ = some (.int .i64 f))) (by kernel_rfl) w3c (fun hH => ?_)
  refine held_take 0 (some 29) (v := .agg Y) rfl rfl (by kernel_rfl) (by kernel_rfl) (by kernel_rfl) (fun _ _ _ h => h) hH (Or.inl ⟨by kernel_rfl, ?_⟩) ?_
  ·(intro x _; go_simp; try with_reducible rfl)
  try simp only [Act.put, List.setIfInBounds_toArray, List.set_cons_zero, List.set_cons_succ]
  refine held_take 1 (some 30) (v := ?_) rfl rfl (by kernel_rfl) (by kernel_rfl) (by kernel_rfl) (fun _ _ _ h => h) hH (Or.inl ⟨by kernel_rfl, ?_⟩) ?_
  rotate_left
  ·(intro x _; go_simp; try with_reducible rfl)
  rotate_right
  try simp only [Act.put, List.setIfInBounds_toArray, List.set_cons_zero, List.set_cons_succ]
  refine held_take 2 (some 31) (v := .int .i64 f) rfl rfl (by kernel_rfl) (by kernel_rfl) (by kernel_rfl) (fun _ _ _ h => h) hH (Or.inl ⟨by kernel_rfl, ?_⟩) ?_
  ·(intro x hx; have c0 := (show _ from hx); go_simp)
  try simp only [Act.put, List.setIfInBounds_toArray, List.set_cons_zero, List.set_cons_succ]
  refine wpAnyH_ready (rs := [3]) (by kernel_rfl) (by simp) ?_
  refine AllReadyH.cons rfl (fun K hK => ?_) AllReadyH.nil
  refine (if_pos (by kernel_rfl)).mpr ?_
  have hcR4 : w3.drew.heap[A + 1]? = some (.cells Y 34 (0, 0)) := hcR3
  refine wp_store_row 34 _ _ rfl (A + 1) Y rfl rfl 34 Y hcR4 HSY rfl HOY ?_
  obtain ⟨w5, hw5⟩ : ∃ w5, w3.drew.setRow (A + 1) Y = w5 := ⟨_, rfl⟩
  have hh5 : w5.heap[A + 1]? = some (.cells Y 34 (0, 0)) := by rw [← hw5]; exact setRow_heap _ _ _ _ _ _ hcR4
  have hg5 : w3.drew.grownBy w5 (some (A + 1)) := by rw [← hw5]; exact ⟨rfl, rfl, rfl, by simp, fun k _ hk => setRow_other _ _ _ _ (by intro e; exact hk (by rw [e]))⟩
  have hS5 : w5.cell? ⟨A + 2, 1, none⟩ = some (.int .i64 f) := (World.cell?_of_block (a := ⟨A + 2, 1, none⟩) (hg5.block (A + 2) (show A + 2 < w3.heap.size by omega) (by simp))).trans w3c
  rw [hw5]
  refine hK.out _ _ hS5 (fun hH2 => ?_)
  clear hK K hH hw5
  refine held_take 4 (some 7) (v := ?_) rfl rfl (by kernel_rfl) (by kernel_rfl) (by kernel_rfl) (fun _ _ _ h => h) hH2 (Or.inl ⟨by kernel_rfl, ?_⟩) ?_
  rotate_left
  ·(intro x _; go_simp; try with_reducible rfl)
  rotate_right
  try simp only [Act.put]
  refine wpAnyH_done (by kernel_rfl) ?_ _
  go_wp2
  refine bodyPost_ret (results_pair rfl _ _ (A + 1) 34 _ (0, 0) _ rfl hh5 Tryz.underlying34 rfl HSY) rfl ?_
  have hb5 := ((Below.refl (A + 1) w3).drew).trans (below_set hg5 (show A + 1 < w3.heap.size by omega))
  exact ⟨celZ, p, f, nilS, cel_wrong HF.out (by rw [HCEL.out]), by rw [HY.out]; rfl, fun i hi => SlAt.nil _ _, hr3.under hb5 (by omega), ⟨hb5.os.trans (hg3.os.trans hg2.os), hb5.tape.trans (hg3.tape.trans hg2.tape), hb5.output.trans (hg3.output.trans hg2.output), Nat.le_trans hg2.size (Nat.le_trans hz3 hb5.size), fun k hk hn => (hb5.block k (by have := HA.out; omega)).trans ((hg3.block k (Nat.lt_of_lt_of_le hk hg2.size) hn).trans (hg2.block k hk hn))⟩⟩
end Go.Proofs.YtbgncbhkjndelaaGreatDoor

namespace Go.Proofs.YtbgncbhkjndelaaGreatDoor
open Go.RowKit Go.Lib Go.ChangeShapes Go.WideShapes Go.ChangeAt
theorem cel_laid {laid : List (String × DataW Unit)} {W : World} (hL : laidMetH Tryz.prog laid W)
  (hm : (("overspill/cbpy.rows", Rows.laid_overspill_cbpy_rows) ∈ laid ∧ (("overspill/mvd.codes", Rows.laid_overspill_mvd_codes) ∈ laid ∧ ("overspill/mvd.lengths", Rows.laid_overspill_mvd_lengths) ∈ laid) ∧ ("overspill/steps.codes", Rows.laid_overspill_steps_codes) ∈ laid ∧
   (("overspill/tcoef.codes", Rows.laid_overspill_tcoef_codes) ∈ laid ∧ ("overspill/tcoef.lengths", Rows.laid_overspill_tcoef_lengths) ∈ laid ∧ ("overspill/tcoef.ahead", Rows.laid_overspill_tcoef_ahead) ∈ laid)) ∧ (laid.all fun x => x.2.handleName?.isNone) = true) : TabsLo W.heap.size W :=
 TabsLo.here (pats_laid hL ⟨hm.1.1, hm.2⟩) (mvd_laid hL ⟨hm.1.2.1, hm.2⟩) (steps_laid hL ⟨hm.1.2.2.1, hm.2⟩) (tcoef_laid hL ⟨hm.1.2.2.2, hm.2⟩)
section
variable {H : Type} {enc : TypeId × Value → H} {P : Program}
end
theorem cel_ex1 : ((ctk true (showL [128]) 0 0 0).1.skip, (ctk true (showL [128]) 0 0 0).2.2) = (true, 0) := by decide +kernel
theorem cel_ex2 : ((ctk true (showL [124]) 3 (-2) 0).1.kind, (ctk true (showL [124]) 3 (-2) 0).1.skip, (ctk true (showL [124]) 3 (-2) 0).1.mx, (ctk true (showL [124]) 3 (-2) 0).1.my, (ctk true (showL [124]) 3 (-2) 0).2.2) = (0, false, 3, -2, 0) := by decide +kernel
set_option maxRecDepth 100000 in
set_option maxHeartbeats 2000000 in
theorem lives21 (w : World) (ht : TabsLo w.heap.size w) : Calls Tryz.prog 7 #[] w fun e w' => e = .returned (.bool true) ∧ Below w.heap.size w w' := by
 have E := two_equal 3 (-2) 3 (-2)
 obtain ⟨Y, hY⟩ : ∃ Y : Array Value, (celL celZ nilS).toArray = Y := ⟨_, rfl⟩
 have hzv : ∀ w, (zeroValue 34).run Tryz.prog w = .ok (.agg Y) w := by rw [← hY]; exact cel_zero
 have HY := Lib.hid hY
 obtain ⟨B, hB⟩ : ∃ B, w.heap.size = B := ⟨_, rfl⟩
 rw [hB] at ht ⊢
 have HT := Lib.hid (fun (x : World) (hx : Below B w x) => (ht.below hx : TabsLo B x))
 have hb0 : Below B w w := Below.refl _ _
 have hz0 : B ≤ w.heap.size := by omega
 clear hY ht hB
 go_enter Tryz.func7, Tryz.ntmps7
 go_wp2_with fail
 refine (rnew_code _ _).mono ?_
 rintro e w1 ⟨rfl, rfl⟩
 obtain ⟨R1, hR1⟩ : ∃ R, w.heap.size = R := ⟨_, rfl⟩
 have hr1 : IsRd (w.alloc (rdObj ⟨#[128]⟩ 0)) R1 ⟨#[128]⟩ 0 := IsRd.fresh hR1 (by decide)
 have hb1 := hb0.alloc hz0 (rdObj ⟨#[128]⟩ 0)
 have hz1 : R1 < (w.alloc (rdObj ⟨#[128]⟩ 0)).heap.size := by rw [← hR1]; simp
 have hk1 : B ≤ R1 := hR1 ▸ hz0
 rw [hR1]
 skip
 generalize w.alloc (rdObj ⟨#[128]⟩ 0) = x1 at hr1 hb1 hz1 ⊢
 skip
 clear hR1
 have ct1 := ctake_code (N := B) true 0 0 (HT.out _ hb1) hk1 hr1
 go_wp2_with fail
 refine ct1.mono ?_
 rintro e y1 ⟨c1, q1', f1, sl1, hc1, rfl, hs1, -, hg1⟩
 skip
 obtain ⟨Z1, hZ1⟩ : ∃ Z, (celL c1 sl1).toArray = Z := ⟨_, rfl⟩
 have siz1 : (Tryz.prog.info? 34).map (·.size) = some Z1.size := hZ1 ▸ cel_size _ _
 have syz1 : Y.size = Z1.size := by rw [← hZ1, ← HY.out]; rfl
 have one1 : Z1.all (·.oneCell') = true := hZ1 ▸ cel_one _ _ fun i hi => (hs1 i hi).one
 obtain ⟨D1, hD1⟩ : ∃ D, y1.heap.size = D := ⟨_, rfl⟩
 obtain ⟨u1, hu1⟩ : ∃ u, y1.alloc (.cells Z1 34 (0, 0)) = u := ⟨_, rfl⟩
 rw [hZ1]
 have h1 := cel_ex1
 rw [show ctk true (showL [128]) 0 0 0 = (c1, q1', f1) from hc1] at h1
 simp only [Prod.mk.injEq] at h1
 obtain ⟨s1, rfl⟩ := h1
 have hy1 := hb1.grown hg1 (by omega) (fun k hk => by injection hk with hk; omega)
 have hyz1 : R1 < D1 := hD1 ▸ Nat.lt_of_lt_of_le hz1 hg1.size
 have hbu1 : Below B w u1 := by rw [← hu1]; exact hy1.alloc (by omega) _
 have hzu1 : u1.heap.size = D1 + 1 := by rw [← hu1, ← hD1]; simp
 have hku1 : B ≤ u1.heap.size := by omega
 have k1 := Lib.hid (fun (x : World) (hx : Below u1.heap.size u1 x) => (⟨by omega, (part_cells (o := 1) ((hx.block D1 (by omega)).trans (show u1.heap[D1]? = some (.cells (celL c1 sl1).toArray 34 (0, 0)) by rw [hZ1, ← hu1, ← hD1]; exact heap_alloc_new y1 _)) (show (celL c1 sl1)[1]? = some (.bool true) by show some (Value.bool c1.skip) = _; rw [s1])), Nat.lt_of_lt_of_le (by omega) hx.size⟩ : R1 < D1 ∧ x.cell? ⟨D1, 1, none⟩ = some (.bool true) ∧ D1 < x.heap.size))
 have HD1 := Lib.hid hD1
 have HU1 := Lib.hid hu1
 clear hZ1 hu1 hD1 hc1 hs1 hg1 hy1 hb1 hr1 ct1 s1 hz1
 go_wp2_with (with_reducible refine wp_store_fresh rfl 34 _ _ rfl Z1 Y 34 rfl rfl siz1 syz1 one1 ?_; rw [HU1.out, HD1.out])
 refine (rnew_code _ _).mono ?_
 rintro e w1 ⟨rfl, rfl⟩
 obtain ⟨R2, hR2⟩ : ∃ R, u1.heap.size = R := ⟨_, rfl⟩
 have hr2 : IsRd (u1.alloc (rdObj ⟨#[124]⟩ 0)) R2 ⟨#[124]⟩ 0 := IsRd.fresh hR2 (by decide)
 have hb2 := hbu1.alloc hku1 (rdObj ⟨#[124]⟩ 0)
 have hz2 : R2 < (u1.alloc (rdObj ⟨#[124]⟩ 0)).heap.size := by rw [← hR2]; simp
 have hk2 : B ≤ R2 := hR2 ▸ hku1
 rw [hR2]
 have q1 := k1.out _ ((Below.refl _ u1).alloc (Nat.le_refl _) (rdObj ⟨#[124]⟩ 0))
 generalize u1.alloc (rdObj ⟨#[124]⟩ 0) = x2 at hr2 hb2 hz2 q1 ⊢
 have hRD : D1 < R2 := by omega
 clear hR2
 have ct2 := ctake_code (N := B) true 3 (-2) (HT.out _ hb2) hk2 hr2
 go_wp2_with fail
 refine ct2.mono ?_
 rintro e y2 ⟨c2, q2', f2, sl2, hc2, rfl, hs2, -, hg2⟩
 skip
 obtain ⟨Z2, hZ2⟩ : ∃ Z, (celL c2 sl2).toArray = Z := ⟨_, rfl⟩
 have siz2 : (Tryz.prog.info? 34).map (·.size) = some Z2.size := hZ2 ▸ cel_size _ _
 have syz2 : Y.size = Z2.size := by rw [← hZ2, ← HY.out]; rfl
 have one2 : Z2.all (·.oneCell') = true := hZ2 ▸ cel_one _ _ fun i hi => (hs2 i hi).one
 obtain ⟨D2, hD2⟩ : ∃ D, y2.heap.size = D := ⟨_, rfl⟩
 obtain ⟨u2, hu2⟩ : ∃ u, y2.alloc (.cells Z2 34 (0, 0)) = u := ⟨_, rfl⟩
 rw [hZ2]
 have h2 := cel_ex2
 rw [show ctk true (showL [124]) 3 (-2) 0 = (c2, q2', f2) from hc2] at h2
 simp only [Prod.mk.injEq] at h2
 obtain ⟨s2, s3, s4, s5, rfl⟩ := h2
 have hy2 := hb2.grown hg2 (by omega) (fun k hk => by injection hk with hk; omega)
 have a1 := (World.cell?_of_block (a := ⟨D1, 1, none⟩) (hg2.block D1 q1.2.2 (by simp; omega))).trans q1.2.1
 have hyd : D1 < D2 := hD2 ▸ Nat.lt_of_lt_of_le q1.2.2 hg2.size
 have hbu2 : Below B w u2 := by rw [← hu2]; exact hy2.alloc (by omega) _
 have hcel2 : u2.heap[D2]? = some (.cells (celL c2 sl2).toArray 34 (0, 0)) := by rw [hZ2, ← hu2, ← hD2]; exact heap_alloc_new y2 _
 have b1 : u2.cell? ⟨D1, 1, none⟩ = some (.bool true) := by rw [← hu2]; exact (World.cell?_of_block (a := ⟨D1, 1, none⟩) (((Below.refl _ y2).alloc (Nat.le_refl _) _).block D1 (by omega))).trans a1
 have d1 : u2.cell? ⟨D2, 1, none⟩ = some (.bool false) := part_cells (o := 1) hcel2 (by show some (Value.bool c2.skip) = _; rw [s3])
 have d2 : u2.cell? ⟨D2, 2, none⟩ = some (.int .i64 0) := part_cells (o := 2) hcel2 (by show some (Value.int .i64 c2.kind) = _; rw [s2])
 have d4 : u2.cell? ⟨D2, 4, none⟩ = some (.int .i64 3) := part_cells (o := 4) hcel2 (by show some (Value.int .i64 c2.mx) = _; rw [s4])
 have d5 : u2.cell? ⟨D2, 5, none⟩ = some (.int .i64 (-2)) := part_cells (o := 5) hcel2 (by show some (Value.int .i64 c2.my) = _; rw [s5])
 have HD2 := Lib.hid hD2
 have HU2 := Lib.hid hu2
 clear hZ2 hu2 hD2 hc2 hs2 hg2 hy2 hb2 hr2 ct2 s2 s3 s4 s5 hcel2 q1 a1 hz2
 go_wp2_with (with_reducible refine wp_store_fresh rfl 34 _ _ rfl Z2 Y 34 rfl rfl siz2 syz2 one2 ?_; rw [HU2.out, HD2.out])
 go_ret
 exact ⟨rfl, hbu2⟩
end Go.Proofs.YtbgncbhkjndelaaGreatDoor
