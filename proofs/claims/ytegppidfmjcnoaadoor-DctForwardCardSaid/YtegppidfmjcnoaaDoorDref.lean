/- The document's own transform: its weights, both ways. No condition. -/
import Derived.Test.YtegppidfmjcnoaaDoorArn
import Derived.Test.YtegppidfmjcnoaaDoorDctm
import Derived.Test.YtegppidfmjcnoaaDoorRound
import Derived.Test.YtegppidfmjcnoaaDoorCalm
import Derived.WalkMore
import Derived.IntWalk
import Derived.Great.BuildSlice
import Derived.BigQuiet
import Derived.Deep.QuietTactic
namespace Go.Proofs.YtegppidfmjcnoaaDoor
open Go.RowKit Go.Lib

/-- The left half of the weights. -/
def halfZ : List Int := [64, 64, 64, 64, 89, 75, 50, 18, 83, 36, -36, -83, 75, -18, -89, -50, 64, -64, -64, 64, 50, -89, 18, 75, 36, -83, 83, -36, 18, -50, 75, -89]
theorem half_some : ∀ i, i < 32 → halfZ[i]? = some (halfZ[i]?.getD 0) := by decide +kernel
theorem half_left : ∀ u, u < 8 → ∀ x, x < 4 → halfZ[u * 4 + x]?.getD 0 = wt (8 * u + x) := by decide +kernel
theorem half_odd : ∀ u, u < 8 → ∀ x, x < 4 → u % 2 = 1 → -(halfZ[u * 4 + x]?.getD 0) = wt (8 * u + (7 - x)) := by decide +kernel
theorem half_even : ∀ u, u < 8 → ∀ x, x < 4 → u % 2 = 0 → halfZ[u * 4 + x]?.getD 0 = wt (8 * u + (7 - x)) := by decide +kernel
theorem half_in : ∀ i, i < 32 → -89 ≤ halfZ[i]?.getD 0 ∧ halfZ[i]?.getD 0 ≤ 89 := by decide +kernel
/-- Its rows, and all of it. -/
def hrow (k : Nat) : Array Value := arn 4 fun i => halfZ[4 * k + i]?.getD 0
def hall : Array Value := arn 32 fun i => halfZ[i]?.getD 0
set_option maxRecDepth 100000 in
set_option maxHeartbeats 2000000 in
theorem weight_low (u x : Nat) (hu : u < 8) (hx : x < 4) (w : World) : Calls Tryd.prog 23 #[.int .i64 u, .int .i64 x] w fun e w' => e = .returned (.int .i64 (wt (8 * u + x))) ∧ Below w.heap.size w w' := by
  obtain ⟨Y, hY⟩ : ∃ Y, arn 32 (fun _ => 0) = Y := ⟨_, rfl⟩
  have hz0 : ∀ w, (zeroValue 38).run Tryd.prog w = .ok (.agg Y) w := by rw [← hY]; exact arn_zero (by kernel_rfl)
  have HSV : (Tryd.prog.info? 38).map (·.size) = some hall.size := arn_sized (by kernel_rfl) _
  have HOV : hall.all (·.oneCell') = true := arn_one 32 _
  have HYV : Y.size = hall.size := by rw [← hY]; unfold hall; rw [arn_size, arn_size]
  obtain ⟨B, hB⟩ : ∃ B, w.heap.size = B := ⟨_, rfl⟩
  obtain ⟨wA, hwA⟩ : ∃ wA, w.alloc (.cells hall 38 (0, 0)) = wA := ⟨_, rfl⟩
  have hA : wA.heap[B]? = some (arnO 38 32 fun i => halfZ[i]?.getD 0) := by rw [← hwA, ← hB]; exact heap_alloc_new w _
  have hbA : Below B w wA := by rw [← hwA, ← hB]; exact (Below.refl _ _).alloc (Nat.le_refl _) _
  have h := arn_cell hA (show u * 4 + x < 32 by omega)
  have HB := Lib.hid hB
  have HWA := Lib.hid hwA
  have HBA := Lib.hid hbA
  clear hY hwA hB hA hbA
  have t0 : decide ((x : Int) < 4) = true := by simp; omega
  rw [half_left u hu x hx] at h
  generalize wt (8 * u + x) = y at h ⊢
  go_enter Tryd.func23, Tryd.ntmps23
  go_wp2_with (first | (with_reducible refine wpList_buildTo rfl 37 _ rfl (some 6) rfl (hrow 0) (by kernel_rfl) ?_) | (with_reducible refine wpList_buildTo rfl 37 _ rfl (some 7) rfl (hrow 1) (by kernel_rfl) ?_) | (with_reducible refine wpList_buildTo rfl 37 _ rfl (some 8) rfl (hrow 2) (by kernel_rfl) ?_) | (with_reducible refine wpList_buildTo rfl 37 _ rfl (some 9) rfl (hrow 3) (by kernel_rfl) ?_) | (with_reducible refine wpList_buildTo rfl 37 _ rfl (some 10) rfl (hrow 4) (by kernel_rfl) ?_) | (with_reducible refine wpList_buildTo rfl 37 _ rfl (some 11) rfl (hrow 5) (by kernel_rfl) ?_) | (with_reducible refine wpList_buildTo rfl 37 _ rfl (some 12) rfl (hrow 6) (by kernel_rfl) ?_) | (with_reducible refine wpList_buildTo rfl 37 _ rfl (some 13) rfl (hrow 7) (by kernel_rfl) ?_) | (with_reducible refine wpList_buildTo rfl 38 _ rfl (some 14) rfl hall (by kernel_rfl) ?_) | (with_reducible refine wp_store_fresh rfl 38 _ _ rfl hall Y 38 rfl rfl HSV HYV HOV ?_; rw [HWA.out, HB.out]))
  go_ret
  exact ⟨rfl, by rw [HB.out]; exact HBA.out⟩
set_option maxRecDepth 100000 in
set_option maxHeartbeats 2000000 in
theorem weight_high (u x : Nat) (hu : u < 8) (hx : x < 4) (w : World) : Calls Tryd.prog 23 #[.int .i64 u, .int .i64 ((7 - x : Nat) : Int)] w fun e w' => e = .returned (.int .i64 (wt (8 * u + (7 - x)))) ∧ Below w.heap.size w w' := by
  obtain ⟨Y, hY⟩ : ∃ Y, arn 32 (fun _ => 0) = Y := ⟨_, rfl⟩
  have hz0 : ∀ w, (zeroValue 38).run Tryd.prog w = .ok (.agg Y) w := by rw [← hY]; exact arn_zero (by kernel_rfl)
  have HSV : (Tryd.prog.info? 38).map (·.size) = some hall.size := arn_sized (by kernel_rfl) _
  have HOV : hall.all (·.oneCell') = true := arn_one 32 _
  have HYV : Y.size = hall.size := by rw [← hY]; unfold hall; rw [arn_size, arn_size]
  obtain ⟨B, hB⟩ : ∃ B, w.heap.size = B := ⟨_, rfl⟩
  obtain ⟨wA, hwA⟩ : ∃ wA, w.alloc (.cells hall 38 (0, 0)) = wA := ⟨_, rfl⟩
  have hA : wA.heap[B]? = some (arnO 38 32 fun i => halfZ[i]?.getD 0) := by rw [← hwA, ← hB]; exact heap_alloc_new w _
  have hbA : Below B w wA := by rw [← hwA, ← hB]; exact (Below.refl _ _).alloc (Nat.le_refl _) _
  have h := arn_cell hA (show u * 4 + x < 32 by omega)
  have HB := Lib.hid hB
  have HWA := Lib.hid hwA
  have HBA := Lib.hid hbA
  clear hY hwA hB hA hbA
  have hin := half_in (u * 4 + x) (by omega)
  have ho := half_odd u hu x hx
  have he := half_even u hu x hx
  obtain ⟨x2, hx2⟩ : ∃ x2, 7 - x = x2 := ⟨_, rfl⟩
  obtain rfl : x = 7 - x2 := by omega
  have t0 : decide ((x2 : Int) < 4) = false := by simp; omega
  have b2 : x2 ≤ 7 := by omega
  rw [hx2] at ho he ⊢
  generalize halfZ[u * 4 + (7 - x2)]?.getD 0 = y at h ho he hin
  have hn : IntKind.i64.wrap (-y) = -y := IntWalk.i64_in _ (by omega)
  have HO := Lib.hid ho
  have HE := Lib.hid he
  clear ho he hx2
  by_cases h2 : u % 2 = 1
  · have t1 : ((u : Int).tmod 2 == 1) = true := by rw [Int.tmod_eq_emod_of_nonneg (by omega)]; simp; omega
    have t2 : ((u : Int) % 2 == 1) = true := by simp; omega
    have HQ := Lib.hid h2
    clear h2
    go_enter Tryd.func23, Tryd.ntmps23
    go_wp2_with (first | (with_reducible refine wpList_buildTo rfl 37 _ rfl (some 6) rfl (hrow 0) (by kernel_rfl) ?_) | (with_reducible refine wpList_buildTo rfl 37 _ rfl (some 7) rfl (hrow 1) (by kernel_rfl) ?_) | (with_reducible refine wpList_buildTo rfl 37 _ rfl (some 8) rfl (hrow 2) (by kernel_rfl) ?_) | (with_reducible refine wpList_buildTo rfl 37 _ rfl (some 9) rfl (hrow 3) (by kernel_rfl) ?_) | (with_reducible refine wpList_buildTo rfl 37 _ rfl (some 10) rfl (hrow 4) (by kernel_rfl) ?_) | (with_reducible refine wpList_buildTo rfl 37 _ rfl (some 11) rfl (hrow 5) (by kernel_rfl) ?_) | (with_reducible refine wpList_buildTo rfl 37 _ rfl (some 12) rfl (hrow 6) (by kernel_rfl) ?_) | (with_reducible refine wpList_buildTo rfl 37 _ rfl (some 13) rfl (hrow 7) (by kernel_rfl) ?_) | (with_reducible refine wpList_buildTo rfl 38 _ rfl (some 14) rfl hall (by kernel_rfl) ?_) | (with_reducible refine wp_store_fresh rfl 38 _ _ rfl hall Y 38 rfl rfl HSV HYV HOV ?_; rw [HWA.out, HB.out]))
    go_ret
    exact ⟨ret_int (HO.out HQ.out), by rw [HB.out]; exact HBA.out⟩
  · have t1 : ((u : Int).tmod 2 == 1) = false := by rw [Int.tmod_eq_emod_of_nonneg (by omega)]; simp; omega
    have t2 : ((u : Int) % 2 == 1) = false := by simp; omega
    have HQ := Lib.hid h2
    clear h2
    go_enter Tryd.func23, Tryd.ntmps23
    go_wp2_with (first | (with_reducible refine wpList_buildTo rfl 37 _ rfl (some 6) rfl (hrow 0) (by kernel_rfl) ?_) | (with_reducible refine wpList_buildTo rfl 37 _ rfl (some 7) rfl (hrow 1) (by kernel_rfl) ?_) | (with_reducible refine wpList_buildTo rfl 37 _ rfl (some 8) rfl (hrow 2) (by kernel_rfl) ?_) | (with_reducible refine wpList_buildTo rfl 37 _ rfl (some 9) rfl (hrow 3) (by kernel_rfl) ?_) | (with_reducible refine wpList_buildTo rfl 37 _ rfl (some 10) rfl (hrow 4) (by kernel_rfl) ?_) | (with_reducible refine wpList_buildTo rfl 37 _ rfl (some 11) rfl (hrow 5) (by kernel_rfl) ?_) | (with_reducible refine wpList_buildTo rfl 37 _ rfl (some 12) rfl (hrow 6) (by kernel_rfl) ?_) | (with_reducible refine wpList_buildTo rfl 37 _ rfl (some 13) rfl (hrow 7) (by kernel_rfl) ?_) | (with_reducible refine wpList_buildTo rfl 38 _ rfl (some 14) rfl hall (by kernel_rfl) ?_) | (with_reducible refine wp_store_fresh rfl 38 _ _ rfl hall Y 38 rfl rfl HSV HYV HOV ?_; rw [HWA.out, HB.out]))
    go_ret
    exact ⟨ret_int (HE.out (by have := HQ.out; omega)), by rw [HB.out]; exact HBA.out⟩
theorem weight_page (u x : Nat) (hu : u < 8) (hx : x < 8) (w : World) : Calls Tryd.prog 23 #[.int .i64 u, .int .i64 x] w fun e w' => e = .returned (.int .i64 (wt (8 * u + x))) ∧ Below w.heap.size w w' := by
  by_cases h : x < 4
  · exact weight_low u x hu h w
  · have e : 7 - (7 - x) = x := by omega
    have h2 := weight_high u (7 - x) hu (by omega) w
    rw [e] at h2
    exact h2
theorem sq_zero : ∀ w, (zeroValue 33).run Tryd.prog w = .ok (.agg (arn 64 fun _ => 0)) w := arn_zero (by kernel_rfl)
theorem sq_sized (f : Nat → Int) : (Tryd.prog.info? 33).map (·.size) = some (arn 64 f).size := arn_sized (by kernel_rfl) f
set_option maxRecDepth 100000 in
set_option maxHeartbeats 2000000 in
theorem weights_page (w : World) : Calls Tryd.prog 17 #[] w (ArnGives 64 wt w) := by
  obtain ⟨Y, hY⟩ : ∃ Y, arn 64 (fun _ => 0) = Y := ⟨_, rfl⟩
  have hz0 : ∀ w, (zeroValue 33).run Tryd.prog w = .ok (.agg Y) w := by rw [← hY]; exact sq_zero
  have HSY : Y.size = 64 := by rw [← hY]; exact arn_size _ _
  obtain ⟨B, wA, wB, hB, hwA, hwB, hzA, hzB, hC0, hC1, hbC⟩ := laid2 w (.cells Y 33 (0, 0)) (.cells Y 33 (0, 0))
  have hC1 : wB.heap[B + 1]? = some (arnO 33 64 (putS wt (8 * 0 + 0))) := by rw [hC1, ← hY]; rfl
  have HY := Lib.hid hY
  have HWA := Lib.hid hwA
  have HWB := Lib.hid hwB
  have HB := Lib.hid hB
  clear hY hwA hwB hB
  go_enter Tryd.func17, Tryd.ntmps17
  go_wp2
  rw [HWA.out, HB.out, HWB.out]
  go_loopw [2] (fun z wr => ∃ u : Nat, u ≤ 8 ∧ z = .int .i64 u ∧ wr.heap[B]? = some (.cells Y 33 (0, 0)) ∧ wr.heap[B + 1]? = some (arnO 33 64 (putS wt (8 * u + 0))) ∧ Below B w wr ∧ B + 2 ≤ wr.heap.size) (fun z _ => 8 - (intOf z).toNat)
  case atStart => exact ⟨0, by omega, rfl, hC0, hC1, hbC, by omega⟩
  case round =>
    clear hC0 hC1 hbC hzA hzB
    obtain ⟨u, hu8, rfl, h0, h1, hb, hz⟩ := hrel
    by_cases hlt : u < 8
    · have t0 : decide ((u : Int) < 8) = true := by simp; omega
      go_wp2
      go_loopw [3] (fun z wr => ∃ x : Nat, x ≤ 8 ∧ z = .int .i64 x ∧ wr.heap[B]? = some (.cells Y 33 (0, 0)) ∧ wr.heap[B + 1]? = some (arnO 33 64 (putS wt (8 * u + x))) ∧ Below B w wr ∧ B + 2 ≤ wr.heap.size) (fun z _ => 8 - (intOf z).toNat)
      case atStart => exact ⟨0, by omega, rfl, h0, h1, hb, hz⟩
      case round =>
        clear h0 h1 hb hz
        obtain ⟨x, hx8, rfl, h0, h1, hb, hz⟩ := hrel
        by_cases hlx : x < 8
        · have t1 : decide ((x : Int) < 8) = true := by simp; omega
          have b1 : 8 * u + x < 64 := by omega
          have C1 := Lib.hid (fun (x2 : World) (hx2 : Below wr.heap.size wr x2) => ((weight_page u x hlt hlx x2).mono fun e y h => ⟨h.1, hx2.trans (h.2.mono hx2.size)⟩ : Calls Tryd.prog 23 #[.int .i64 u, .int .i64 x] x2 fun e y => e = .returned (.int .i64 (wt (8 * u + x))) ∧ Below wr.heap.size wr y))
          have S := Lib.hid (show putS wt (8 * u + (x + 1)) = setF (putS wt (8 * u + x)) (8 * u + x) (wt (8 * u + x)) from rfl)
          generalize wt (8 * u + x) = y at C1 S
          have HH := Lib.hid h0
          have HI := Lib.hid h1
          have HB2 := Lib.hid hb
          clear h0 h1 hb
          go_wp2
          refine wp_region_calm (S := fun x => Below wr.heap.size wr x) 7 (by kernel_rfl) (by kernel_rfl) (Below.refl _ _).drew ?_
          simp only [List.take_succ_cons, List.take_zero, List.drop_succ_cons, List.drop_zero]
          refine calm_value (v := ?v0) (by kernel_rfl) ?m ?_; (case m => (intro x _; go_simp; try with_reducible rfl))
          simp only [Act.put, List.setIfInBounds_toArray, List.set_cons_zero, List.set_cons_succ]
          refine calm_value (v := ?v1) (by kernel_rfl) ?m ?_; (case m => (intro x _; go_simp; try with_reducible rfl))
          simp only [Act.put, List.setIfInBounds_toArray, List.set_cons_zero, List.set_cons_succ]
          refine calm_value (v := ?v2) (by kernel_rfl) ?m ?_; (case m => (intro x _; go_simp; try with_reducible rfl))
          simp only [Act.put, List.setIfInBounds_toArray, List.set_cons_zero, List.set_cons_succ]
          refine calm_value (v := ?v3) (by kernel_rfl) ?m ?_; (case m => (intro x _; go_simp; try with_reducible rfl))
          simp only [Act.put, List.setIfInBounds_toArray, List.set_cons_zero, List.set_cons_succ]
          refine calm_call (by kernel_rfl) C1.out (fun _ => by kernel_rfl) ?_
          simp only [Act.put, List.setIfInBounds_toArray, List.set_cons_zero, List.set_cons_succ]
          refine calm_value (v := ?v5) (by kernel_rfl) ?m ?_; (case m => (intro x _; go_simp; rw [if_pos (by omega)]))
          simp only [Act.put, List.setIfInBounds_toArray, List.set_cons_zero, List.set_cons_succ]
          refine calm_value (v := ?v6) (by kernel_rfl) ?m ?_; (case m => (intro x _; go_simp; rw [if_pos (by omega)]))
          simp only [Act.put, List.setIfInBounds_toArray, List.set_cons_zero, List.set_cons_succ]
          refine calm_nil fun x2 hx2 => ?_
          have k0 := (hx2.block B (by omega)).trans HH.out
          have k1 := (hx2.block (B + 1) (by omega)).trans HI.out
          have kb := HB2.out.trans (hx2.mono (by omega))
          have kz : B + 2 ≤ x2.heap.size := Nat.le_trans hz hx2.size
          have c1 := arn_cell k1 b1
          have ff := arn_free (i := 8 * u + x) k1
          generalize putS wt (8 * u + x) (8 * u + x) = y2 at c1
          rw [show 8 * u + x = u * 8 + x by omega] at c1 ff
          have PUT := Lib.hid (fun (w2 : World) (e : x2.setCell ⟨B + 1, u * 8 + x, none⟩ (.int .i64 y) = w2) => (by subst e; rw [show u * 8 + x = 8 * u + x by omega]; exact ⟨heap_set k0 (by simp), by rw [S.out]; exact arn_put y k1, kb.setCell (p := ⟨B + 1, 8 * u + x, none⟩) (by simp) _, by simp [World.setCell]; omega⟩ : w2.heap[B]? = some (.cells Y 33 (0, 0)) ∧ w2.heap[B + 1]? = some (arnO 33 64 (putS wt (8 * u + (x + 1)))) ∧ Below B w w2 ∧ B + 2 ≤ w2.heap.size))
          clear k0 k1 kb hx2 HH HI HB2 C1 S
          go_wp2
          generalize hw2 : x2.setCell _ _ = w2
          have F := PUT.out w2 hw2
          clear hw2 PUT c1 ff
          go_roundw
          case rel => exact ⟨x + 1, by omega, by go_num, F⟩
          case measure => simp [intOf]; omega
        · obtain rfl : x = 8 := by omega
          have t1 : decide ((8 : Int) < 8) = false := by simp
          have h1' : wr.heap[B + 1]? = some (arnO 33 64 (putS wt (8 * (u + 1) + 0))) := h1
          clear h1
          go_wp2
          go_roundw
          case rel => exact ⟨u + 1, by omega, by go_num, h0, h1', hb, hz⟩
          case measure => simp [intOf]; omega
    · obtain rfl : u = 8 := by omega
      have t0 : decide ((8 : Int) < 8) = false := by simp
      obtain ⟨V, hV⟩ : ∃ V, arn 64 (putS wt 64) = V := ⟨_, rfl⟩
      have HV := Lib.hid hV
      have h1' : wr.heap[B + 1]? = some (.cells V 33 (0, 0)) := by rw [← hV]; exact h1
      have HSV : (Tryd.prog.info? 33).map (·.size) = some V.size := by rw [← hV]; exact sq_sized _
      have HOV : V.all (·.oneCell') = true := by rw [← hV]; exact arn_one _ _
      have HYV : Y.size = V.size := by rw [← hV, HSY, arn_size]
      clear hV h1
      go_wp2_with (first | (with_reducible refine wpList_load_row rfl 33 _ rfl (B + 1) rfl 33 V (0, 0) _ h1' Tryd.underlying33 rfl HSV ?_) | (with_reducible refine wp_store_arr rfl 33 _ _ rfl B V Y rfl rfl 33 h0 HSV HYV HOV ?_; intro w2 hh2 hg2))
      refine bodyPost_ret (results_cell_row rfl _ _ B 33 _ (0, 0) _ rfl hh2 Tryd.underlying33 rfl HSV) rfl ?_
      exact arn_gives (putS_most 64 wt) HV.out (by rw [HB.out]; exact hb.grown hg2 (by omega) (fun k hk => by injection hk with hk; omega))

/-- What the page keeps while it sums. -/
def RefAt (f g : Nat → Int) (Y : Array Value) (B Q R : Nat) (w wr : World) : Prop := wr.heap[B]? = some (arrO f) ∧ wr.heap[B + 1]? = some (.cells Y 22 (0, 0)) ∧ wr.heap[Q]? = some (arnO 33 64 wt) ∧ wr.heap[R]? = some (arrO g) ∧ Below B w wr ∧ R + 1 ≤ wr.heap.size
theorem RefAt.below {f g : Nat → Int} {Y : Array Value} {B Q R : Nat} {w wr x : World} (h : RefAt f g Y B Q R w wr) (hq : Q < R) (hb : B + 2 ≤ Q) (hx : Below wr.heap.size wr x) : RefAt f g Y B Q R w x := by
  obtain ⟨h0, h1, h2, h3, h4, h5⟩ := h
  exact ⟨(hx.block B (by omega)).trans h0, (hx.block (B + 1) (by omega)).trans h1, (hx.block Q (by omega)).trans h2, (hx.block R (by omega)).trans h3, h4.trans (hx.mono (by omega)), Nat.le_trans h5 hx.size⟩
theorem RefAt.put {f g : Nat → Int} {Y : Array Value} {B Q R : Nat} {w wr x : World} (p : Nat) (y : Int) (h : RefAt f g Y B Q R w wr) (hq : Q < R) (hb : B + 2 ≤ Q) (e : wr.setCell ⟨R, p, none⟩ (.int .i64 y) = x) : RefAt f (setF g p y) Y B Q R w x := by
  subst e
  obtain ⟨h0, h1, h2, h3, h4, h5⟩ := h
  exact ⟨heap_set h0 (by simp; omega), heap_set h1 (by simp; omega), heap_set h2 (by simp; omega), arr_put y h3, h4.setCell (p := ⟨R, p, none⟩) (by simp; omega) _, by simpa [World.setCell] using h5⟩
theorem pageK_none (k : Nat → Nat → Int) (f : Nat → Int) (p n : Nat) (h : f n = 0) : pageK k (clipB f) p n = 0 := by
  unfold pageK clipB
  rw [h]
  exact Int.mul_zero _
theorem pageK_in {k : Nat → Nat → Int} {b : Nat → Int} (hk : InK k) (hb : InB 2048 b) (p n : Nat) (hp : p < 64) (hn : n < 64) : -16222208 ≤ pageK k b p n ∧ pageK k b p n ≤ 16222208 := by
  have h1 := hk (p % 8) (n % 8) (by omega) (by omega)
  have h2 := hk (p / 8) (n / 8) (by omega) (by omega)
  have h3 := mul_within h1.1 h1.2 h2.1 h2.2
  have h4 := hb n hn
  exact mul_within (by omega : -7921 ≤ k (p % 8) (n % 8) * k (p / 8) (n / 8)) (by omega) h4.1 h4.2
theorem pageK_sum {k : Nat → Nat → Int} {b : Nat → Int} (hk : InK k) (hb : InB 2048 b) (p : Nat) (hp : p < 64) (n : Nat) (hn : n ≤ 64) : -1038221312 ≤ sumN n (pageK k b p) ∧ sumN n (pageK k b p) ≤ 1038221312 := by
  have h := sumN_most (M := 16222208) n fun i hi => pageK_in hk hb p i hp (by omega)
  omega
theorem rem_8 (p u : Nat) (h : p % 8 = u) : (p : Int).tmod 8 = (u : Int) ∧ (p : Int) % 8 = (u : Int) := by
  rw [Int.tmod_eq_emod_of_nonneg (by omega)]
  omega
theorem quo_8 (p v : Nat) (h : p / 8 = v) : (p : Int).tdiv 8 = (v : Int) ∧ (p : Int) / 8 = (v : Int) := by
  rw [Int.tdiv_eq_ediv_of_nonneg (by omega)]
  omega

set_option maxRecDepth 100000 in
set_option maxHeartbeats 2000000 in
theorem fwd_page (f : Nat → Int) (w : World) : Calls Tryd.prog 8 #[.agg (arrA f)] w (ArnGives 64 (fwdB f) w) := by
  obtain ⟨X, hX⟩ : ∃ X, arrA f = X := ⟨_, rfl⟩
  obtain ⟨Y, hY⟩ : ∃ Y, arn 64 (fun _ => 0) = Y := ⟨_, rfl⟩
  have hza : ∀ w, (zeroValue 22).run Tryd.prog w = .ok (.agg Y) w := by rw [← hY]; exact arr_zero
  have hzs : ∀ w, (zeroValue 33).run Tryd.prog w = .ok (.agg Y) w := by rw [← hY]; exact sq_zero
  have HSY : Y.size = 64 := by rw [← hY]; exact arn_size _ _
  obtain ⟨B, wA, wB, hB, hwA, hwB, hzA, hzB, hC0, hC1, hbC⟩ := laid2 w (.cells X 22 (0, 0)) (.cells Y 22 (0, 0))
  have hC0 : wB.heap[B]? = some (arrO f) := by rw [hC0, ← hX]; rfl
  have HSV : (Tryd.prog.info? 33).map (·.size) = some (arn 64 wt).size := sq_sized _
  have HOV := arn_one 64 wt
  have HYV : Y.size = (arn 64 wt).size := by rw [HSY, arn_size]
  have C0 := Lib.hid (fun x => weights_page x)
  unfold ArnGives at C0
  rw [hX]
  generalize hV : arn 64 wt = V at C0 HSV HOV HYV
  have HV := Lib.hid hV
  have HY := Lib.hid hY
  have HWA := Lib.hid hwA
  have HWB := Lib.hid hwB
  have HB := Lib.hid hB
  clear hX hY hwA hwB hB hV
  go_enter Tryd.func8, Tryd.ntmps8
  go_wp2_with fail
  rw [HWA.out, HB.out, HWB.out]
  refine (C0.out _).mono ?_
  rintro e w1 ⟨rfl, hb1⟩
  obtain ⟨Q, w2, w3, hQ, hw2, hw3, hz2, hz3, k2, k3, hb3⟩ := laid2 w1 (.cells V 33 (0, 0)) (.cells Y 22 (0, 0))
  have hQB : B + 2 ≤ Q := by have := hb1.size; omega
  have hR : RefAt f (putS (fwdB f) 0) Y B Q (Q + 1) w w3 := by
    refine ⟨?_, ?_, ?_, ?_, (hbC.trans (hb1.mono (by omega))).trans (hb3.mono (by omega)), by omega⟩
    · exact (hb3.block B (by omega)).trans ((hb1.block B (by omega)).trans hC0)
    · exact (hb3.block (B + 1) (by omega)).trans ((hb1.block (B + 1) (by omega)).trans hC1)
    · rw [k2, ← HV.out]; rfl
    · rw [k3, ← HY.out]; rfl
  have HQ := Lib.hid hQ
  have HW2 := Lib.hid hw2
  have HW3 := Lib.hid hw3
  have HR := Lib.hid hR
  have HZ2 := Lib.hid hz2
  clear hb1 hQ hw2 hw3 hz2 hz3 k2 k3 hb3 hR hC0 hC1 hbC hzA hzB C0
  go_wp2_with (with_reducible refine wp_store_fresh rfl 33 _ _ rfl V Y 33 rfl rfl HSV HYV HOV ?_; rw [HW2.out])
  rw [HQ.out, HW3.out, HZ2.out]
  clear hza hzs HSV HOV HYV
  go_loopw [5] (fun z wr => ∃ p : Nat, p ≤ 64 ∧ z = .int .i64 p ∧ Hid (RefAt f (putS (fwdB f) p) Y B Q (Q + 1) w wr)) (fun z _ => 64 - (intOf z).toNat)
  case atStart => exact ⟨0, by omega, rfl, HR⟩
  case round =>
    clear HR
    obtain ⟨p, hp64, rfl, hR⟩ := hrel
    by_cases hlt : p < 64
    · have t0 : decide ((p : Int) < 64) = true := by simp; omega
      go_wp2
      go_loopw [6, 7] (fun t z wr => ∃ n : Nat, n ≤ 64 ∧ z = .int .i64 n ∧ t = .int .i64 (sumN n (pageK kF (clipB f) p)) ∧ Hid (RefAt f (putS (fwdB f) p) Y B Q (Q + 1) w wr)) (fun _ z _ => 64 - (intOf z).toNat)
      case atStart => exact ⟨0, by omega, rfl, rfl, hR⟩
      case round =>
        clear hR
        obtain ⟨n, hn64, rfl, rfl, hR⟩ := hrel
        by_cases hln : n < 64
        · have t1 : decide ((n : Int) < 64) = true := by simp; omega
          by_cases hz : f n = 0
          · have S : sumN (n + 1) (pageK kF (clipB f) p) = sumN n (pageK kF (clipB f) p) := by
              show sumN n (pageK kF (clipB f) p) + pageK kF (clipB f) p n = _
              rw [pageK_none kF f p n hz, Int.add_zero]
            have HS := Lib.hid S
            have c0 := arr_cell hR.out.1 hln
            rw [hz] at c0
            clear S hz
            generalize sumN n (pageK kF (clipB f) p) = s at HS ⊢
            go_wp2
            go_roundw
            case rel => exact ⟨n + 1, by omega, by go_num, by rw [HS.out], hR⟩
            case measure => simp [intOf]; omega
          · have c0 := arr_cell hR.out.1 hln
            obtain ⟨x, hx⟩ : ∃ x, n % 8 = x := ⟨_, rfl⟩
            obtain ⟨y, hy⟩ : ∃ y, n / 8 = y := ⟨_, rfl⟩
            obtain ⟨u, hu⟩ : ∃ u, p % 8 = u := ⟨_, rfl⟩
            obtain ⟨v, hv⟩ : ∃ v, p / 8 = v := ⟨_, rfl⟩
            obtain ⟨r1, r2⟩ := rem_8 n x hx
            obtain ⟨r3, r4⟩ := quo_8 n y hy
            obtain ⟨r5, r6⟩ := rem_8 p u hu
            obtain ⟨r7, r8⟩ := quo_8 p v hv
            have r9 : IntKind.i64.wrap (v : Int) = (v : Int) := IntWalk.i64_in _ (by omega)
            have r10 : IntKind.i64.wrap (y : Int) = (y : Int) := IntWalk.i64_in _ (by omega)
            have b1 : x < 8 := by omega
            have b2 : y < 8 := by omega
            have b3 : u < 8 := by omega
            have b4 : v < 8 := by omega
            have m1 := pageK_sum kF_in (clipB_in f) p hlt n (by omega)
            have m2 := pageK_in kF_in (clipB_in f) p n hlt hln
            have S : sumN (n + 1) (pageK kF (clipB f) p) = sumN n (pageK kF (clipB f) p) + wt (u * 8 + x) * wt (v * 8 + y) * clip (f n) (-2048) 2047 := by
              show sumN n (pageK kF (clipB f) p) + kF (p % 8) (n % 8) * kF (p / 8) (n / 8) * clip (f n) (-2048) 2047 = _
              rw [hx, hy, hu, hv]
              unfold kF
              rw [Nat.mul_comm 8 u, Nat.mul_comm 8 v]
            have e2 : pageK kF (clipB f) p n = wt (u * 8 + x) * wt (v * 8 + y) * clip (f n) (-2048) 2047 := by
              show kF (p % 8) (n % 8) * kF (p / 8) (n / 8) * clip (f n) (-2048) 2047 = _
              rw [hx, hy, hu, hv]
              unfold kF
              rw [Nat.mul_comm 8 u, Nat.mul_comm 8 v]
            rw [e2] at m2
            have i1 := wt_in (u * 8 + x) (by omega)
            have i2 := wt_in (v * 8 + y) (by omega)
            have i3 := mul_within i1.1 i1.2 i2.1 i2.2
            have HK := Lib.hid (fun (x2 : World) (hx2 : Below wr.heap.size wr x2) => hR.out.below (by omega) hQB hx2)
            have K1 := Lib.hid (fun (x2 : World) (hx2 : Below wr.heap.size wr x2) => arn_cell (HK.out x2 hx2).2.2.1 (show u * 8 + x < 64 by omega))
            have K2 := Lib.hid (fun (x2 : World) (hx2 : Below wr.heap.size wr x2) => arn_cell (HK.out x2 hx2).2.2.1 (show v * 8 + y < 64 by omega))
            have K3 := Lib.hid (fun (x2 : World) (hx2 : Below wr.heap.size wr x2) => arr_cell (HK.out x2 hx2).1 hln)
            have C1 := Lib.hid (fun (x2 : World) (hx2 : Below wr.heap.size wr x2) => ((clip_page (f n) (-2048) 2047 x2).mono fun e y h => ⟨h.1, h.2 ▸ hx2⟩ : Calls Tryd.prog 18 #[.int .i64 (f n), .int .i64 (-2048), .int .i64 2047] x2 fun e y => e = .returned (.int .i64 (clip (f n) (-2048) 2047)) ∧ Below wr.heap.size wr y))
            have tz : ((f n) == 0) = false := by simpa using hz
            have HS := Lib.hid S
            clear S e2 hx hy hu hv hz hR
            generalize sumN n (pageK kF (clipB f) p) = s at HS m1 ⊢
            generalize clip (f n) (-2048) 2047 = z4 at HS m2 C1
            generalize f n = z3 at c0 tz K3 C1
            generalize wt (u * 8 + x) = z1 at HS m2 i1 i3 K1
            generalize wt (v * 8 + y) = z2 at HS m2 i2 i3 K2
            obtain ⟨z5, hz5⟩ : ∃ z5, z1 * z2 = z5 := ⟨_, rfl⟩
            rw [hz5] at HS m2 i3
            obtain ⟨z6, hz6⟩ : ∃ z6, z5 * z4 = z6 := ⟨_, rfl⟩
            rw [hz6] at HS m2
            obtain ⟨z7, hz7⟩ : ∃ z7, s + z6 = z7 := ⟨_, rfl⟩
            rw [hz7] at HS
            have q1 : IntKind.i64.wrap (z1 * z2) = z5 := by rw [hz5]; exact IntWalk.i64_in z5 (by omega)
            have q2 : IntKind.i64.wrap (z5 * z4) = z6 := by rw [hz6]; exact IntWalk.i64_in z6 (by omega)
            have q3 : IntKind.i64.wrap (s + z6) = z7 := by rw [hz7]; exact IntWalk.i64_in z7 (by omega)
            clear hz5 hz6 hz7 m1 m2 i1 i2 i3
            go_wp2
            refine wp_region_calm (S := fun x => Below wr.heap.size wr x) 23 (by kernel_rfl) (by kernel_rfl) (Below.refl _ _).drew ?_
            simp only [List.take_succ_cons, List.take_zero, List.drop_succ_cons, List.drop_zero]
            refine calm_value (v := ?va0) (by kernel_rfl) ?m ?_; (case m => (intro x _; go_simp; try with_reducible rfl))
            simp only [Act.put, List.setIfInBounds_toArray, List.set_cons_zero, List.set_cons_succ]
            refine calm_value (v := ?va1) (by kernel_rfl) ?m ?_; (case m => (intro x _; go_simp; try with_reducible rfl))
            simp only [Act.put, List.setIfInBounds_toArray, List.set_cons_zero, List.set_cons_succ]
            refine calm_value (v := ?va2) (by kernel_rfl) ?m ?_; (case m => (intro x _; go_simp; try with_reducible rfl))
            simp only [Act.put, List.setIfInBounds_toArray, List.set_cons_zero, List.set_cons_succ]
            refine calm_value (v := ?va3) (by kernel_rfl) ?m ?_; (case m => (intro x _; go_simp; try with_reducible rfl))
            simp only [Act.put, List.setIfInBounds_toArray, List.set_cons_zero, List.set_cons_succ]
            refine calm_value (v := ?va4) (by kernel_rfl) ?m ?_; (case m => (intro x _; go_simp; try with_reducible rfl))
            simp only [Act.put, List.setIfInBounds_toArray, List.set_cons_zero, List.set_cons_succ]
            refine calm_value (v := ?va5) (by kernel_rfl) ?m ?_; (case m => (intro x _; go_simp; rw [if_pos (by omega)]))
            simp only [Act.put, List.setIfInBounds_toArray, List.set_cons_zero, List.set_cons_succ]
            refine calm_value (v := ?va6) (by kernel_rfl) ?m ?_; (case m => (intro x _; go_simp; rw [if_pos (by omega)]))
            simp only [Act.put, List.setIfInBounds_toArray, List.set_cons_zero, List.set_cons_succ]
            refine calm_cell 3 _ ⟨Q, u * 8 + x, none⟩ (.int .i64 z1) (by kernel_rfl) rfl rfl (fun x hx => by have c0 := K1.out x hx; go_simp) ?_
            simp only [Act.put, List.setIfInBounds_toArray, List.set_cons_zero, List.set_cons_succ]
            refine calm_value (v := ?va8) (by kernel_rfl) ?m ?_; (case m => (intro x _; go_simp; try with_reducible rfl))
            simp only [Act.put, List.setIfInBounds_toArray, List.set_cons_zero, List.set_cons_succ]
            refine calm_value (v := ?va9) (by kernel_rfl) ?m ?_; (case m => (intro x _; go_simp; try with_reducible rfl))
            simp only [Act.put, List.setIfInBounds_toArray, List.set_cons_zero, List.set_cons_succ]
            refine calm_value (v := ?va10) (by kernel_rfl) ?m ?_; (case m => (intro x _; go_simp; try with_reducible rfl))
            simp only [Act.put, List.setIfInBounds_toArray, List.set_cons_zero, List.set_cons_succ]
            refine calm_value (v := ?va11) (by kernel_rfl) ?m ?_; (case m => (intro x _; go_simp; try with_reducible rfl))
            simp only [Act.put, List.setIfInBounds_toArray, List.set_cons_zero, List.set_cons_succ]
            refine calm_value (v := ?va12) (by kernel_rfl) ?m ?_; (case m => (intro x _; go_simp; rw [if_pos (by omega)]))
            simp only [Act.put, List.setIfInBounds_toArray, List.set_cons_zero, List.set_cons_succ]
            refine calm_value (v := ?va13) (by kernel_rfl) ?m ?_; (case m => (intro x _; go_simp; rw [if_pos (by omega)]))
            simp only [Act.put, List.setIfInBounds_toArray, List.set_cons_zero, List.set_cons_succ]
            refine calm_cell 3 _ ⟨Q, v * 8 + y, none⟩ (.int .i64 z2) (by kernel_rfl) rfl rfl (fun x hx => by have c0 := K2.out x hx; go_simp) ?_
            simp only [Act.put, List.setIfInBounds_toArray, List.set_cons_zero, List.set_cons_succ]
            refine calm_value (v := ?va15) (by kernel_rfl) ?m ?_; (case m => (intro x _; go_simp; try with_reducible rfl))
            simp only [Act.put, List.setIfInBounds_toArray, List.set_cons_zero, List.set_cons_succ]
            refine calm_value (v := ?va16) (by kernel_rfl) ?m ?_; (case m => (intro x _; go_simp; try with_reducible rfl))
            simp only [Act.put, List.setIfInBounds_toArray, List.set_cons_zero, List.set_cons_succ]
            refine calm_value (v := ?va17) (by kernel_rfl) ?m ?_; (case m => (intro x _; go_simp; rw [if_pos (by omega)]))
            simp only [Act.put, List.setIfInBounds_toArray, List.set_cons_zero, List.set_cons_succ]
            refine calm_cell 3 _ ⟨B, n, none⟩ (.int .i64 z3) (by kernel_rfl) rfl rfl (fun x hx => by have c0 := K3.out x hx; go_simp) ?_
            simp only [Act.put, List.setIfInBounds_toArray, List.set_cons_zero, List.set_cons_succ]
            refine calm_call (by kernel_rfl) C1.out (fun _ => by kernel_rfl) ?_
            simp only [Act.put, List.setIfInBounds_toArray, List.set_cons_zero, List.set_cons_succ]
            refine calm_value (v := ?va20) (by kernel_rfl) ?m ?_; (case m => (intro x _; go_simp; try with_reducible rfl))
            simp only [Act.put, List.setIfInBounds_toArray, List.set_cons_zero, List.set_cons_succ]
            refine calm_value (v := ?va21) (by kernel_rfl) ?m ?_; (case m => (intro x _; go_simp; try with_reducible rfl))
            simp only [Act.put, List.setIfInBounds_toArray, List.set_cons_zero, List.set_cons_succ]
            refine calm_value (v := ?va22) (by kernel_rfl) ?m ?_; (case m => (intro x _; go_simp; try with_reducible rfl))
            simp only [Act.put, List.setIfInBounds_toArray, List.set_cons_zero, List.set_cons_succ]
            refine calm_nil fun x2 hx2 => ?_
            have hR2 := Lib.hid (HK.out x2 hx2)
            clear hx2 HK K1 K2 K3 C1 c0 r1 r2 r3 r4 r5 r6 r7 r8 r9 r10 q1 q2 q3
            go_wp2
            go_roundw
            case rel => exact ⟨n + 1, by omega, by go_num, by rw [HS.out], hR2⟩
            case measure => simp [intOf]; omega
        · obtain rfl : n = 64 := by omega
          have t1 : decide ((64 : Int) < 64) = false := by simp
          have S := Lib.hid (show putS (fwdB f) (p + 1) = setF (putS (fwdB f) p) p (fwdB f p) from rfl)
          have e1 : fwdB f p = clip (round (sumN 64 (pageK kF (clipB f) p)) 15) (-2048) 2047 := by
            show clip (round (turnK kF (turnK kF (clipB f)) p) 15) (-2048) 2047 = _
            rw [turns_page]
          rw [e1] at S
          have cr := fun w => round_page (sumN 64 (pageK kF (clipB f) p)) 15 w
          have cv := fun w => clip_page (round (sumN 64 (pageK kF (clipB f) p)) 15) (-2048) 2047 w
          generalize clip (round (sumN 64 (pageK kF (clipB f) p)) 15) (-2048) 2047 = y at cv S
          generalize round (sumN 64 (pageK kF (clipB f) p)) 15 = y1 at cv cr
          generalize sumN 64 (pageK kF (clipB f) p) = y3 at cr ⊢
          have c2 := arr_cell hR.out.2.2.2.1 hlt
          have ff := arr_free (i := p) hR.out.2.2.2.1
          generalize putS (fwdB f) p p = y2 at c2
          have PUT := Lib.hid (fun (w2 : World) (e : wr.setCell ⟨Q + 1, p, none⟩ (.int .i64 y) = w2) => (by rw [S.out]; exact hR.out.put p y (by omega) hQB e : RefAt f (putS (fwdB f) (p + 1)) Y B Q (Q + 1) w w2))
          clear e1 hR S
          go_wp2_with (first | (with_reducible refine (cr _).mono ?_; rintro e w4 ⟨rfl, rfl⟩) | (with_reducible refine (cv _).mono ?_; rintro e w4 ⟨rfl, rfl⟩))
          generalize hw2 : wr.setCell _ _ = w2
          have F := Lib.hid (PUT.out w2 hw2)
          clear hw2 PUT c2 ff cr cv
          go_roundw
          case rel => exact ⟨p + 1, by omega, by go_num, F⟩
          case measure => simp [intOf]; omega
    · obtain rfl : p = 64 := by omega
      have t0 : decide ((64 : Int) < 64) = false := by simp
      obtain ⟨V2, hV2⟩ : ∃ V2, arn 64 (putS (fwdB f) 64) = V2 := ⟨_, rfl⟩
      have HV2 := Lib.hid hV2
      obtain ⟨h0, h1, h2, h3, hb, hz⟩ := hR.out
      have h3' : wr.heap[Q + 1]? = some (.cells V2 22 (0, 0)) := by rw [← hV2]; exact h3
      have HSV : (Tryd.prog.info? 22).map (·.size) = some V2.size := by rw [← hV2]; exact arr_sized _
      have HOV : V2.all (·.oneCell') = true := by rw [← hV2]; exact arn_one _ _
      have HYV : Y.size = V2.size := by rw [← hV2, HSY, arn_size]
      clear hV2 h3 h2 h0 hR
      go_wp2_with (first | (with_reducible refine wpList_load_row rfl 22 _ rfl (Q + 1) rfl 22 V2 (0, 0) _ h3' Tryd.underlying22 rfl HSV ?_) | (with_reducible refine wp_store_arr rfl 22 _ _ rfl (B + 1) V2 Y rfl rfl 22 h1 HSV HYV HOV ?_; intro w2 hh2 hg2))
      refine bodyPost_ret (results_cell_row rfl _ _ (B + 1) 22 _ (0, 0) _ rfl hh2 Tryd.underlying22 rfl HSV) rfl ?_
      exact arn_gives (putS_most 64 (fwdB f)) HV2.out (by rw [HB.out]; exact hb.grown hg2 (by omega) (fun k hk => by injection hk with hk; omega))
set_option maxRecDepth 100000 in
set_option maxHeartbeats 2000000 in
theorem inv_page (f : Nat → Int) (w : World) : Calls Tryd.prog 11 #[.agg (arrA f)] w (ArnGives 64 (invB f) w) := by
  obtain ⟨X, hX⟩ : ∃ X, arrA f = X := ⟨_, rfl⟩
  obtain ⟨Y, hY⟩ : ∃ Y, arn 64 (fun _ => 0) = Y := ⟨_, rfl⟩
  have hza : ∀ w, (zeroValue 22).run Tryd.prog w = .ok (.agg Y) w := by rw [← hY]; exact arr_zero
  have hzs : ∀ w, (zeroValue 33).run Tryd.prog w = .ok (.agg Y) w := by rw [← hY]; exact sq_zero
  have HSY : Y.size = 64 := by rw [← hY]; exact arn_size _ _
  obtain ⟨B, wA, wB, hB, hwA, hwB, hzA, hzB, hC0, hC1, hbC⟩ := laid2 w (.cells X 22 (0, 0)) (.cells Y 22 (0, 0))
  have hC0 : wB.heap[B]? = some (arrO f) := by rw [hC0, ← hX]; rfl
  have HSV : (Tryd.prog.info? 33).map (·.size) = some (arn 64 wt).size := sq_sized _
  have HOV := arn_one 64 wt
  have HYV : Y.size = (arn 64 wt).size := by rw [HSY, arn_size]
  have C0 := Lib.hid (fun x => weights_page x)
  unfold ArnGives at C0
  rw [hX]
  generalize hV : arn 64 wt = V at C0 HSV HOV HYV
  have HV := Lib.hid hV
  have HY := Lib.hid hY
  have HWA := Lib.hid hwA
  have HWB := Lib.hid hwB
  have HB := Lib.hid hB
  clear hX hY hwA hwB hB hV
  go_enter Tryd.func11, Tryd.ntmps11
  go_wp2_with fail
  rw [HWA.out, HB.out, HWB.out]
  refine (C0.out _).mono ?_
  rintro e w1 ⟨rfl, hb1⟩
  obtain ⟨Q, w2, w3, hQ, hw2, hw3, hz2, hz3, k2, k3, hb3⟩ := laid2 w1 (.cells V 33 (0, 0)) (.cells Y 22 (0, 0))
  have hQB : B + 2 ≤ Q := by have := hb1.size; omega
  have hR : RefAt f (putS (invB f) 0) Y B Q (Q + 1) w w3 := by
    refine ⟨?_, ?_, ?_, ?_, (hbC.trans (hb1.mono (by omega))).trans (hb3.mono (by omega)), by omega⟩
    · exact (hb3.block B (by omega)).trans ((hb1.block B (by omega)).trans hC0)
    · exact (hb3.block (B + 1) (by omega)).trans ((hb1.block (B + 1) (by omega)).trans hC1)
    · rw [k2, ← HV.out]; rfl
    · rw [k3, ← HY.out]; rfl
  have HQ := Lib.hid hQ
  have HW2 := Lib.hid hw2
  have HW3 := Lib.hid hw3
  have HR := Lib.hid hR
  have HZ2 := Lib.hid hz2
  clear hb1 hQ hw2 hw3 hz2 hz3 k2 k3 hb3 hR hC0 hC1 hbC hzA hzB C0
  go_wp2_with (with_reducible refine wp_store_fresh rfl 33 _ _ rfl V Y 33 rfl rfl HSV HYV HOV ?_; rw [HW2.out])
  rw [HQ.out, HW3.out, HZ2.out]
  clear hza hzs HSV HOV HYV
  go_loopw [5] (fun z wr => ∃ p : Nat, p ≤ 64 ∧ z = .int .i64 p ∧ Hid (RefAt f (putS (invB f) p) Y B Q (Q + 1) w wr)) (fun z _ => 64 - (intOf z).toNat)
  case atStart => exact ⟨0, by omega, rfl, HR⟩
  case round =>
    clear HR
    obtain ⟨p, hp64, rfl, hR⟩ := hrel
    by_cases hlt : p < 64
    · have t0 : decide ((p : Int) < 64) = true := by simp; omega
      go_wp2
      go_loopw [6, 7] (fun t z wr => ∃ n : Nat, n ≤ 64 ∧ z = .int .i64 n ∧ t = .int .i64 (sumN n (pageK kI (clipB f) p)) ∧ Hid (RefAt f (putS (invB f) p) Y B Q (Q + 1) w wr)) (fun _ z _ => 64 - (intOf z).toNat)
      case atStart => exact ⟨0, by omega, rfl, rfl, hR⟩
      case round =>
        clear hR
        obtain ⟨n, hn64, rfl, rfl, hR⟩ := hrel
        by_cases hln : n < 64
        · have t1 : decide ((n : Int) < 64) = true := by simp; omega
          by_cases hz : f n = 0
          · have S : sumN (n + 1) (pageK kI (clipB f) p) = sumN n (pageK kI (clipB f) p) := by
              show sumN n (pageK kI (clipB f) p) + pageK kI (clipB f) p n = _
              rw [pageK_none kI f p n hz, Int.add_zero]
            have HS := Lib.hid S
            have c0 := arr_cell hR.out.1 hln
            rw [hz] at c0
            clear S hz
            generalize sumN n (pageK kI (clipB f) p) = s at HS ⊢
            go_wp2
            go_roundw
            case rel => exact ⟨n + 1, by omega, by go_num, by rw [HS.out], hR⟩
            case measure => simp [intOf]; omega
          · have c0 := arr_cell hR.out.1 hln
            obtain ⟨x, hx⟩ : ∃ x, n % 8 = x := ⟨_, rfl⟩
            obtain ⟨y, hy⟩ : ∃ y, n / 8 = y := ⟨_, rfl⟩
            obtain ⟨u, hu⟩ : ∃ u, p % 8 = u := ⟨_, rfl⟩
            obtain ⟨v, hv⟩ : ∃ v, p / 8 = v := ⟨_, rfl⟩
            obtain ⟨r1, r2⟩ := rem_8 n x hx
            obtain ⟨r3, r4⟩ := quo_8 n y hy
            obtain ⟨r5, r6⟩ := rem_8 p u hu
            obtain ⟨r7, r8⟩ := quo_8 p v hv
            have r9 : IntKind.i64.wrap (v : Int) = (v : Int) := IntWalk.i64_in _ (by omega)
            have r10 : IntKind.i64.wrap (y : Int) = (y : Int) := IntWalk.i64_in _ (by omega)
            have b1 : x < 8 := by omega
            have b2 : y < 8 := by omega
            have b3 : u < 8 := by omega
            have b4 : v < 8 := by omega
            have m1 := pageK_sum kI_in (clipB_in f) p hlt n (by omega)
            have m2 := pageK_in kI_in (clipB_in f) p n hlt hln
            have S : sumN (n + 1) (pageK kI (clipB f) p) = sumN n (pageK kI (clipB f) p) + wt (x * 8 + u) * wt (y * 8 + v) * clip (f n) (-2048) 2047 := by
              show sumN n (pageK kI (clipB f) p) + kI (p % 8) (n % 8) * kI (p / 8) (n / 8) * clip (f n) (-2048) 2047 = _
              rw [hx, hy, hu, hv]
              unfold kI
              rw [Nat.mul_comm 8 x, Nat.mul_comm 8 y]
            have e2 : pageK kI (clipB f) p n = wt (x * 8 + u) * wt (y * 8 + v) * clip (f n) (-2048) 2047 := by
              show kI (p % 8) (n % 8) * kI (p / 8) (n / 8) * clip (f n) (-2048) 2047 = _
              rw [hx, hy, hu, hv]
              unfold kI
              rw [Nat.mul_comm 8 x, Nat.mul_comm 8 y]
            rw [e2] at m2
            have i1 := wt_in (x * 8 + u) (by omega)
            have i2 := wt_in (y * 8 + v) (by omega)
            have i3 := mul_within i1.1 i1.2 i2.1 i2.2
            have HK := Lib.hid (fun (x2 : World) (hx2 : Below wr.heap.size wr x2) => hR.out.below (by omega) hQB hx2)
            have K1 := Lib.hid (fun (x2 : World) (hx2 : Below wr.heap.size wr x2) => arn_cell (HK.out x2 hx2).2.2.1 (show x * 8 + u < 64 by omega))
            have K2 := Lib.hid (fun (x2 : World) (hx2 : Below wr.heap.size wr x2) => arn_cell (HK.out x2 hx2).2.2.1 (show y * 8 + v < 64 by omega))
            have K3 := Lib.hid (fun (x2 : World) (hx2 : Below wr.heap.size wr x2) => arr_cell (HK.out x2 hx2).1 hln)
            have C1 := Lib.hid (fun (x2 : World) (hx2 : Below wr.heap.size wr x2) => ((clip_page (f n) (-2048) 2047 x2).mono fun e y h => ⟨h.1, h.2 ▸ hx2⟩ : Calls Tryd.prog 18 #[.int .i64 (f n), .int .i64 (-2048), .int .i64 2047] x2 fun e y => e = .returned (.int .i64 (clip (f n) (-2048) 2047)) ∧ Below wr.heap.size wr y))
            have tz : ((f n) == 0) = false := by simpa using hz
            have HS := Lib.hid S
            clear S e2 hx hy hu hv hz hR
            generalize sumN n (pageK kI (clipB f) p) = s at HS m1 ⊢
            generalize clip (f n) (-2048) 2047 = z4 at HS m2 C1
            generalize f n = z3 at c0 tz K3 C1
            generalize wt (x * 8 + u) = z1 at HS m2 i1 i3 K1
            generalize wt (y * 8 + v) = z2 at HS m2 i2 i3 K2
            obtain ⟨z5, hz5⟩ : ∃ z5, z1 * z2 = z5 := ⟨_, rfl⟩
            rw [hz5] at HS m2 i3
            obtain ⟨z6, hz6⟩ : ∃ z6, z5 * z4 = z6 := ⟨_, rfl⟩
            rw [hz6] at HS m2
            obtain ⟨z7, hz7⟩ : ∃ z7, s + z6 = z7 := ⟨_, rfl⟩
            rw [hz7] at HS
            have q1 : IntKind.i64.wrap (z1 * z2) = z5 := by rw [hz5]; exact IntWalk.i64_in z5 (by omega)
            have q2 : IntKind.i64.wrap (z5 * z4) = z6 := by rw [hz6]; exact IntWalk.i64_in z6 (by omega)
            have q3 : IntKind.i64.wrap (s + z6) = z7 := by rw [hz7]; exact IntWalk.i64_in z7 (by omega)
            clear hz5 hz6 hz7 m1 m2 i1 i2 i3
            go_wp2
            refine wp_region_calm (S := fun x => Below wr.heap.size wr x) 23 (by kernel_rfl) (by kernel_rfl) (Below.refl _ _).drew ?_
            simp only [List.take_succ_cons, List.take_zero, List.drop_succ_cons, List.drop_zero]
            refine calm_value (v := ?va0) (by kernel_rfl) ?m ?_; (case m => (intro x _; go_simp; try with_reducible rfl))
            simp only [Act.put, List.setIfInBounds_toArray, List.set_cons_zero, List.set_cons_succ]
            refine calm_value (v := ?va1) (by kernel_rfl) ?m ?_; (case m => (intro x _; go_simp; try with_reducible rfl))
            simp only [Act.put, List.setIfInBounds_toArray, List.set_cons_zero, List.set_cons_succ]
            refine calm_value (v := ?va2) (by kernel_rfl) ?m ?_; (case m => (intro x _; go_simp; try with_reducible rfl))
            simp only [Act.put, List.setIfInBounds_toArray, List.set_cons_zero, List.set_cons_succ]
            refine calm_value (v := ?va3) (by kernel_rfl) ?m ?_; (case m => (intro x _; go_simp; try with_reducible rfl))
            simp only [Act.put, List.setIfInBounds_toArray, List.set_cons_zero, List.set_cons_succ]
            refine calm_value (v := ?va4) (by kernel_rfl) ?m ?_; (case m => (intro x _; go_simp; try with_reducible rfl))
            simp only [Act.put, List.setIfInBounds_toArray, List.set_cons_zero, List.set_cons_succ]
            refine calm_value (v := ?va5) (by kernel_rfl) ?m ?_; (case m => (intro x _; go_simp; rw [if_pos (by omega)]))
            simp only [Act.put, List.setIfInBounds_toArray, List.set_cons_zero, List.set_cons_succ]
            refine calm_value (v := ?va6) (by kernel_rfl) ?m ?_; (case m => (intro x _; go_simp; rw [if_pos (by omega)]))
            simp only [Act.put, List.setIfInBounds_toArray, List.set_cons_zero, List.set_cons_succ]
            refine calm_cell 3 _ ⟨Q, x * 8 + u, none⟩ (.int .i64 z1) (by kernel_rfl) rfl rfl (fun x hx => by have c0 := K1.out x hx; go_simp) ?_
            simp only [Act.put, List.setIfInBounds_toArray, List.set_cons_zero, List.set_cons_succ]
            refine calm_value (v := ?va8) (by kernel_rfl) ?m ?_; (case m => (intro x _; go_simp; try with_reducible rfl))
            simp only [Act.put, List.setIfInBounds_toArray, List.set_cons_zero, List.set_cons_succ]
            refine calm_value (v := ?va9) (by kernel_rfl) ?m ?_; (case m => (intro x _; go_simp; try with_reducible rfl))
            simp only [Act.put, List.setIfInBounds_toArray, List.set_cons_zero, List.set_cons_succ]
            refine calm_value (v := ?va10) (by kernel_rfl) ?m ?_; (case m => (intro x _; go_simp; try with_reducible rfl))
            simp only [Act.put, List.setIfInBounds_toArray, List.set_cons_zero, List.set_cons_succ]
            refine calm_value (v := ?va11) (by kernel_rfl) ?m ?_; (case m => (intro x _; go_simp; try with_reducible rfl))
            simp only [Act.put, List.setIfInBounds_toArray, List.set_cons_zero, List.set_cons_succ]
            refine calm_value (v := ?va12) (by kernel_rfl) ?m ?_; (case m => (intro x _; go_simp; rw [if_pos (by omega)]))
            simp only [Act.put, List.setIfInBounds_toArray, List.set_cons_zero, List.set_cons_succ]
            refine calm_value (v := ?va13) (by kernel_rfl) ?m ?_; (case m => (intro x _; go_simp; rw [if_pos (by omega)]))
            simp only [Act.put, List.setIfInBounds_toArray, List.set_cons_zero, List.set_cons_succ]
            refine calm_cell 3 _ ⟨Q, y * 8 + v, none⟩ (.int .i64 z2) (by kernel_rfl) rfl rfl (fun x hx => by have c0 := K2.out x hx; go_simp) ?_
            simp only [Act.put, List.setIfInBounds_toArray, List.set_cons_zero, List.set_cons_succ]
            refine calm_value (v := ?va15) (by kernel_rfl) ?m ?_; (case m => (intro x _; go_simp; try with_reducible rfl))
            simp only [Act.put, List.setIfInBounds_toArray, List.set_cons_zero, List.set_cons_succ]
            refine calm_value (v := ?va16) (by kernel_rfl) ?m ?_; (case m => (intro x _; go_simp; try with_reducible rfl))
            simp only [Act.put, List.setIfInBounds_toArray, List.set_cons_zero, List.set_cons_succ]
            refine calm_value (v := ?va17) (by kernel_rfl) ?m ?_; (case m => (intro x _; go_simp; rw [if_pos (by omega)]))
            simp only [Act.put, List.setIfInBounds_toArray, List.set_cons_zero, List.set_cons_succ]
            refine calm_cell 3 _ ⟨B, n, none⟩ (.int .i64 z3) (by kernel_rfl) rfl rfl (fun x hx => by have c0 := K3.out x hx; go_simp) ?_
            simp only [Act.put, List.setIfInBounds_toArray, List.set_cons_zero, List.set_cons_succ]
            refine calm_call (by kernel_rfl) C1.out (fun _ => by kernel_rfl) ?_
            simp only [Act.put, List.setIfInBounds_toArray, List.set_cons_zero, List.set_cons_succ]
            refine calm_value (v := ?va20) (by kernel_rfl) ?m ?_; (case m => (intro x _; go_simp; try with_reducible rfl))
            simp only [Act.put, List.setIfInBounds_toArray, List.set_cons_zero, List.set_cons_succ]
            refine calm_value (v := ?va21) (by kernel_rfl) ?m ?_; (case m => (intro x _; go_simp; try with_reducible rfl))
            simp only [Act.put, List.setIfInBounds_toArray, List.set_cons_zero, List.set_cons_succ]
            refine calm_value (v := ?va22) (by kernel_rfl) ?m ?_; (case m => (intro x _; go_simp; try with_reducible rfl))
            simp only [Act.put, List.setIfInBounds_toArray, List.set_cons_zero, List.set_cons_succ]
            refine calm_nil fun x2 hx2 => ?_
            have hR2 := Lib.hid (HK.out x2 hx2)
            clear hx2 HK K1 K2 K3 C1 c0 r1 r2 r3 r4 r5 r6 r7 r8 r9 r10 q1 q2 q3
            go_wp2
            go_roundw
            case rel => exact ⟨n + 1, by omega, by go_num, by rw [HS.out], hR2⟩
            case measure => simp [intOf]; omega
        · obtain rfl : n = 64 := by omega
          have t1 : decide ((64 : Int) < 64) = false := by simp
          have S := Lib.hid (show putS (invB f) (p + 1) = setF (putS (invB f) p) p (invB f p) from rfl)
          have e1 : invB f p = clip (round (sumN 64 (pageK kI (clipB f) p)) 15) (-256) 255 := by
            show clip (round (turnK kI (turnK kI (clipB f)) p) 15) (-256) 255 = _
            rw [turns_page]
          rw [e1] at S
          have cr := fun w => round_page (sumN 64 (pageK kI (clipB f) p)) 15 w
          have cv := fun w => clip_page (round (sumN 64 (pageK kI (clipB f) p)) 15) (-256) 255 w
          generalize clip (round (sumN 64 (pageK kI (clipB f) p)) 15) (-256) 255 = y at cv S
          generalize round (sumN 64 (pageK kI (clipB f) p)) 15 = y1 at cv cr
          generalize sumN 64 (pageK kI (clipB f) p) = y3 at cr ⊢
          have c2 := arr_cell hR.out.2.2.2.1 hlt
          have ff := arr_free (i := p) hR.out.2.2.2.1
          generalize putS (invB f) p p = y2 at c2
          have PUT := Lib.hid (fun (w2 : World) (e : wr.setCell ⟨Q + 1, p, none⟩ (.int .i64 y) = w2) => (by rw [S.out]; exact hR.out.put p y (by omega) hQB e : RefAt f (putS (invB f) (p + 1)) Y B Q (Q + 1) w w2))
          clear e1 hR S
          go_wp2_with (first | (with_reducible refine (cr _).mono ?_; rintro e w4 ⟨rfl, rfl⟩) | (with_reducible refine (cv _).mono ?_; rintro e w4 ⟨rfl, rfl⟩))
          generalize hw2 : wr.setCell _ _ = w2
          have F := Lib.hid (PUT.out w2 hw2)
          clear hw2 PUT c2 ff cr cv
          go_roundw
          case rel => exact ⟨p + 1, by omega, by go_num, F⟩
          case measure => simp [intOf]; omega
    · obtain rfl : p = 64 := by omega
      have t0 : decide ((64 : Int) < 64) = false := by simp
      obtain ⟨V2, hV2⟩ : ∃ V2, arn 64 (putS (invB f) 64) = V2 := ⟨_, rfl⟩
      have HV2 := Lib.hid hV2
      obtain ⟨h0, h1, h2, h3, hb, hz⟩ := hR.out
      have h3' : wr.heap[Q + 1]? = some (.cells V2 22 (0, 0)) := by rw [← hV2]; exact h3
      have HSV : (Tryd.prog.info? 22).map (·.size) = some V2.size := by rw [← hV2]; exact arr_sized _
      have HOV : V2.all (·.oneCell') = true := by rw [← hV2]; exact arn_one _ _
      have HYV : Y.size = V2.size := by rw [← hV2, HSY, arn_size]
      clear hV2 h3 h2 h0 hR
      go_wp2_with (first | (with_reducible refine wpList_load_row rfl 22 _ rfl (Q + 1) rfl 22 V2 (0, 0) _ h3' Tryd.underlying22 rfl HSV ?_) | (with_reducible refine wp_store_arr rfl 22 _ _ rfl (B + 1) V2 Y rfl rfl 22 h1 HSV HYV HOV ?_; intro w2 hh2 hg2))
      refine bodyPost_ret (results_cell_row rfl _ _ (B + 1) 22 _ (0, 0) _ rfl hh2 Tryd.underlying22 rfl HSV) rfl ?_
      exact arn_gives (putS_most 64 (invB f)) HV2.out (by rw [HB.out]; exact hb.grown hg2 (by omega) (fun k hk => by injection hk with hk; omega))
end Go.Proofs.YtegppidfmjcnoaaDoor
