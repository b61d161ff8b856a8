/- A block taken by a vector. No condition. -/
import Derived.Test.YtnpmllbdpmkliaaVhalf
namespace Go.Proofs.Ytnpmllbdpmkliaa
open Go.RowKit Go.Lib

/-- The samples from halves (L, T) on. -/
def blkT (f : Nat → Int) (W L T : Nat) : Nat → Int := fun i => halfF f W (L + 2 * (i % 8)) (T + 2 * (i / 8))
/-- All that is taken is inside. -/
def InT (n W L T : Nat) : Prop := ∀ i, i < 64 → (T + 2 * (i / 8)) / 2 * W + (L + 2 * (i % 8)) / 2 + (T + 2 * (i / 8)) % 2 * W + (L + 2 * (i % 8)) % 2 < n
set_option maxRecDepth 100000 in
set_option maxHeartbeats 8000000 in
theorem taken_code (s v : Value) (W n cl ln L T : Nat) (f : Nat → Int) (a b : Int) (w : World) (lo : Nat) (hs : SampAt w lo s v W) (hv : BtAt w v n f) (hn : n ≤ 1073741824) (hcl : cl ≤ 1000) (hln : ln ≤ 1000) (hL : 16 * (cl : Int) + a = (L : Int)) (hT : 16 * (ln : Int) + b = (T : Int)) (hL2 : L ≤ 9000) (hT2 : T ≤ 9000) (hin : InT n W L T) :
    Calls Try.prog 28 #[s, .int .i64 (cl : Int), .int .i64 (ln : Int), .agg (twoA a b)] w fun e w' => e = .returned (.agg (arrA (blkT f W L T))) ∧ Below w.heap.size w w' := by
  obtain ⟨B, wA, wB, wC, hB, hwA, hwB, hwC, hzA, hzB, hzC, hC0, hC1, hC2, hbC⟩ := laid3 w (.cells (twoA a b) 22 (0, 0)) (.cells (arrA fun _ => 0) 31 (0, 0)) (.cells (arrA fun _ => 0) 31 (0, 0))
  replace hC2 : wC.heap[B + 2]? = some (arrO (putS (blkT f W L T) 0)) := hC2
  have HT := Lib.hid (fun (x : World) (hx : Below B w x) (i : Nat) (hi : i < 64) => samp_code (hs.below (by rw [hB]; exact hx)) (hv.below (by rw [hB]; exact hx)) hn (L + 2 * (i % 8)) (T + 2 * (i / 8)) (by omega) (hin i hi))
  obtain ⟨r1, r2, rfl, -⟩ := hs
  have HP := Lib.hid (fun (x : World) (hx : Below B w x) (i : Nat) (hi : i < 64) => (by
    obtain ⟨q1, q2, e, c⟩ := HT.out x hx i hi
    simp at e
    obtain ⟨rfl, rfl⟩ := e
    exact c : Calls Try.prog 42 #[.int .i64 ((L + 2 * (i % 8) : Nat) : Int), .int .i64 ((T + 2 * (i / 8) : Nat) : Int), .pointer (some ⟨r1, 0, none⟩), .pointer (some ⟨r2, 0, none⟩)] x fun e w' => e = .returned (.int .i64 (blkT f W L T i)) ∧ Below x.heap.size x w'))
  clear HT
  obtain ⟨l0, l1⟩ := two_at hC0
  have hC0' := hC0
  have hz0 := arr_zero
  have HSY : (arrA fun _ => 0).size = 64 := arrA_size _
  obtain ⟨Y, hY⟩ : ∃ Y, (arrA fun _ => 0) = Y := ⟨_, rfl⟩
  rw [hY] at hwB hwC hz0 HSY hC1
  obtain ⟨X, hX⟩ : ∃ X, twoA a b = X := ⟨_, rfl⟩
  have HS2 := two_sized a b
  rw [hX] at hwA HS2 hC0 ⊢
  have u1 : IntKind.i64.wrap (16 * (cl : Int)) = 16 * (cl : Int) := wrapN (by omega)
  have u2 : IntKind.i64.wrap (16 * (ln : Int)) = 16 * (ln : Int) := wrapN (by omega)
  have u3 : IntKind.i64.wrap (L : Int) = (L : Int) := wrapNat (by omega)
  have u4 : IntKind.i64.wrap (T : Int) = (T : Int) := wrapNat (by omega)
  have HY := Lib.hid hY
  have HWA := Lib.hid hwA
  have HWB := Lib.hid hwB
  have HWC := Lib.hid hwC
  have HB := Lib.hid hB
  have HLL := Lib.hid hL
  have HTT := Lib.hid hT
  have HC := Lib.hid (fun (x : World) (hx : Below (B + 3) wC x) => two_at ((hx.block B (by omega)).trans hC0'))
  clear hX hY hwA hwB hwC hB hin hv hC0' l0 l1
  go_enter Try.func28, Try.ntmps28
  go_wp2
  rw [HWA.out, HB.out, HWB.out, HWC.out]
  refine wp_region_calm (S := fun x => Below (B + 3) wC x) 12 (by kernel_rfl) (by kernel_rfl) (Below.refl _ _).drew ?_
  simp only [List.take_succ_cons, List.take_zero, List.drop_succ_cons, List.drop_zero]
  refine calm_value (v := ?v0) (by kernel_rfl) ?m ?_; (case m => (intro x _; go_simp; try with_reducible rfl))
  simp only [Act.put, List.setIfInBounds_toArray, List.set_cons_zero, List.set_cons_succ]
  refine calm_value (v := ?v1) (by kernel_rfl) ?m ?_; (case m => (intro x _; go_simp; try with_reducible rfl))
  simp only [Act.put, List.setIfInBounds_toArray, List.set_cons_zero, List.set_cons_succ]
  refine calm_value (v := ?v2) (by kernel_rfl) ?m ?_; (case m => (intro x _; go_simp; try with_reducible rfl))
  simp only [Act.put, List.setIfInBounds_toArray, List.set_cons_zero, List.set_cons_succ]
  refine calm_cell 3 _ ⟨B, 0, none⟩ (.int .i64 a) (by kernel_rfl) rfl rfl (fun x hx => by have c0 := (HC.out x hx).1; go_simp) ?_
  simp only [Act.put, List.setIfInBounds_toArray, List.set_cons_zero, List.set_cons_succ]
  refine calm_value (v := ?v4) (by kernel_rfl) ?m ?_; (case m => (intro x _; go_simp; try with_reducible rfl))
  simp only [Act.put, List.setIfInBounds_toArray, List.set_cons_zero, List.set_cons_succ]
  refine calm_value (v := ?v5) (by kernel_rfl) ?m ?_; (case m => (intro x _; go_simp; try with_reducible rfl))
  simp only [Act.put, List.setIfInBounds_toArray, List.set_cons_zero, List.set_cons_succ]
  refine calm_value (v := ?v6) (by kernel_rfl) ?m ?_; (case m => (intro x _; go_simp; try with_reducible rfl))
  simp only [Act.put, List.setIfInBounds_toArray, List.set_cons_zero, List.set_cons_succ]
  refine calm_value (v := ?v7) (by kernel_rfl) ?m ?_; (case m => (intro x _; go_simp; try with_reducible rfl))
  simp only [Act.put, List.setIfInBounds_toArray, List.set_cons_zero, List.set_cons_succ]
  refine calm_cell 3 _ ⟨B, 1, none⟩ (.int .i64 b) (by kernel_rfl) rfl rfl (fun x hx => by have c0 := (HC.out x hx).2; go_simp) ?_
  simp only [Act.put, List.setIfInBounds_toArray, List.set_cons_zero, List.set_cons_succ]
  refine calm_value (v := ?v9) (by kernel_rfl) ?m ?_; (case m => (intro x _; go_simp; try with_reducible rfl))
  simp only [Act.put, List.setIfInBounds_toArray, List.set_cons_zero, List.set_cons_succ]
  refine calm_value (v := ?v10) (by kernel_rfl) ?m ?_; (case m => (intro x _; go_simp; try with_reducible rfl))
  simp only [Act.put, List.setIfInBounds_toArray, List.set_cons_zero, List.set_cons_succ]
  refine calm_value (v := ?v11) (by kernel_rfl) ?m ?_; (case m => (intro x _; go_simp; try with_reducible rfl))
  simp only [Act.put, List.setIfInBounds_toArray, List.set_cons_zero, List.set_cons_succ]
  refine calm_nil fun x hx => ?_
  have h1 := (hx.block (B + 1) (by omega)).trans hC1
  have h2 := (hx.block (B + 2) (by omega)).trans hC2
  have hbx := hbC.trans (hx.mono (by omega))
  have hzx : B + 3 ≤ x.heap.size := by have := hx.size; omega
  clear hC0 hC1 hC2 hbC hzA hzB hzC hL hT hx
  have HQ := Lib.hid (fun i => show putS (blkT f W L T) (i + 1) = setF (putS (blkT f W L T) i) i (blkT f W L T i) from rfl)
  have HV64 := Lib.hid (putS_all (blkT f W L T))
  obtain ⟨g, hg⟩ : ∃ g, blkT f W L T = g := ⟨_, rfl⟩
  rw [hg] at HP HQ HV64
  have HG := Lib.hid hg
  clear hg
  go_wp2
  go_loopw [23] (fun z wr => ∃ i : Nat, i ≤ 64 ∧ z = .int .i64 i ∧ wr.heap[B + 1]? = some (.cells Y 31 (0, 0)) ∧ wr.heap[B + 2]? = some (arrO (putS g i)) ∧ Below B w wr ∧ B + 3 ≤ wr.heap.size) (fun z _ => 64 - (intOf z).toNat)
  case atStart => exact ⟨0, by omega, rfl, h1, h2, hbx, hzx⟩
  case round =>
    clear h1 h2 hbx hzx
    obtain ⟨i, hi64, rfl, h1, h2, hb, hz⟩ := hrel
    by_cases hlt : i < 64
    · have t0 : decide ((i : Int) < 64) = true := by simp; omega
      have cs := HP.out wr hb i hlt
      have e1 : (i : Int).tmod 8 = ((i % 8 : Nat) : Int) := by rw [Int.tmod_eq_emod_of_nonneg (by omega)]; rfl
      have e2 : (i : Int).tdiv 8 = ((i / 8 : Nat) : Int) := by rw [Int.tdiv_eq_ediv_of_nonneg (by omega)]; rfl
      have e3 : IntKind.i64.wrap ((i / 8 : Nat) : Int) = ((i / 8 : Nat) : Int) := wrapNat (by omega)
      have b1 : i % 8 < 8 := by omega
      have b2 : i / 8 < 8 := by omega
      have S1 : (L : Int) + ((i % 8 : Nat) : Int) * 2 = ((L + 2 * (i % 8) : Nat) : Int) := by omega
      have S2 : (T : Int) + ((i / 8 : Nat) : Int) * 2 = ((T + 2 * (i / 8) : Nat) : Int) := by omega
      have S3 : IntKind.i64.wrap ((L + 2 * (i % 8) : Nat) : Int) = ((L + 2 * (i % 8) : Nat) : Int) := wrapNat (by omega)
      have S4 : IntKind.i64.wrap ((T + 2 * (i / 8) : Nat) : Int) = ((T + 2 * (i / 8) : Nat) : Int) := wrapNat (by omega)
      generalize L + 2 * (i % 8) = xx at *
      generalize T + 2 * (i / 8) = yy at *
      generalize i % 8 = u at *
      generalize i / 8 = q at *
      have S := HQ.out i
      generalize hy : g i = y at cs S
      go_wp2_with fail
      refine cs.mono ?_
      rintro e x1 ⟨rfl, hb1⟩
      have k1 := (hb1.block (B + 1) (by omega)).trans h1
      have k2 := (hb1.block (B + 2) (by omega)).trans h2
      have kb := hb.trans (hb1.mono (by omega))
      have kz : B + 3 ≤ x1.heap.size := by have := hb1.size; omega
      have c2 := arr_cell k2 hlt
      have ff := arr_free (i := i) k2
      generalize putS g i i = y2 at c2
      have PUT := Lib.hid (⟨heap_set k1 (by simp), by rw [S]; exact arr_put y k2, kb.setCell (by simp; omega) _, by simp [World.setCell]; omega⟩ : (x1.setCell ⟨B + 1 + 1, i, none⟩ (.int .i64 y)).heap[B + 1]? = some (.cells Y 31 (0, 0)) ∧ (x1.setCell ⟨B + 1 + 1, i, none⟩ (.int .i64 y)).heap[B + 2]? = some (arrO (putS g (i + 1))) ∧ Below B w (x1.setCell ⟨B + 1 + 1, i, none⟩ (.int .i64 y)) ∧ B + 3 ≤ (x1.setCell ⟨B + 1 + 1, i, none⟩ (.int .i64 y)).heap.size)
      clear h1 h2 hb hz k1 k2 kb kz S cs hb1 S1 S2 S3 S4
      go_wp2
      go_roundw
      case rel => exact ⟨i + 1, by omega, by go_num, PUT.out⟩
      case measure => simp [intOf] <;> omega
    · obtain rfl : i = 64 := by omega
      have t0 : decide ((64 : Int) < 64) = false := by simp
      obtain ⟨V, hV⟩ : ∃ V, arrA g = V := ⟨_, rfl⟩
      have hV2 : arrA (putS g 64) = V := by rw [← hV]; exact arrA_congr HV64.out
      have HV := Lib.hid hV
      have h2' : wr.heap[B + 2]? = some (.cells V 31 (0, 0)) := by rw [← hV2]; exact h2
      have HSV : (Try.prog.info? 31).map (·.size) = some V.size := by rw [← hV]; exact arr_sized _
      have HOV : V.all (·.oneCell') = true := by rw [← hV]; exact arrA_one _
      have HYV : Y.size = V.size := by rw [← hV, HSY, arrA_size]
      clear hV hV2 h2
      go_wp2_with (first | (with_reducible refine wpList_load_row rfl 31 _ rfl (B + 2) rfl 31 V (0, 0) _ h2' Try.underlying31 rfl HSV ?_) | (with_reducible refine wp_store_arr rfl 31 _ _ rfl (B + 1) V Y rfl rfl 31 h1 HSV HYV HOV ?_; intro w2 hh2 hg2))
      refine bodyPost_ret (results_cell_row rfl _ _ (B + 1) 31 _ (0, 0) _ rfl hh2 Try.underlying31 rfl HSV) rfl ?_
      exact ⟨by rw [HG.out, HV.out], by rw [HB.out]; exact hb.grown hg2 (by omega) (fun k hk => by injection hk with hk; omega)⟩
end Go.Proofs.Ytnpmllbdpmkliaa
