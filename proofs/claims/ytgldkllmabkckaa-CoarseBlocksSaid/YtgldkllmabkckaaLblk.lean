/- Package coarse and the document's own answer of layer 13: the levels of a block. No condition. -/
import Derived.Test.YtgldkllmabkckaaLev
import Derived.Test.YtgldkllmabkckaaArr
import Derived.WalkMore
namespace Go.Proofs.Ytgldkllmabkckaa
open Go.RowKit Go.Lib

/-- The levels of a block. -/
def levG (f : Nat → Int) (q : Int) (intra : Bool) (i : Nat) : Int := if i = 0 ∧ intra = true then 0 else levV (f i) q intra
theorem levG_false (f : Nat → Int) (q : Int) : ∀ p, p < 64 → putS (fun i => levV (f i) q false) 64 p = levG f q false p := by
  intro p hp
  rw [putS_all _ p hp]
  unfold levG
  rw [if_neg (by simp)]
theorem levG_true (f : Nat → Int) (q : Int) : ∀ p, p < 64 → setF (putS (fun i => levV (f i) q true) 64) 0 0 p = levG f q true p := by
  intro p hp
  unfold setF levG
  by_cases e : p = 0
  · rw [if_pos e, if_pos ⟨e, rfl⟩]
  · rw [if_neg e, if_neg (by simp [e]), putS_all _ p hp]
set_option maxRecDepth 100000 in
set_option maxHeartbeats 2000000 in
theorem lblk_false (f : Nat → Int) (q : Int) (w : World) : Calls Try.prog 12 #[.agg (arrA f), .int .i64 q, .bool false] w (BlkGives (levG f q false) w) := by
  obtain ⟨B, hB⟩ : ∃ B, w.heap.size = B := ⟨_, rfl⟩
  obtain ⟨X, hX⟩ : ∃ X, arrA f = X := ⟨_, rfl⟩
  obtain ⟨Y, hY⟩ : ∃ Y, arrA (fun _ => 0) = Y := ⟨_, rfl⟩
  have hidx := fun (w : World) (i : Nat) (h : i < 64) => arr_index f h w
  have hz0 : ∀ w, (zeroValue 27).run Try.prog w = .ok (.agg Y) w := by rw [← hY]; exact arr_zero
  have HSY : Y.size = 64 := by rw [← hY]; exact arrA_size _
  have HSX : (Try.prog.info? 27).map (·.size) = some X.size := by rw [← hX]; exact arr_sized _
  obtain ⟨wA, hwA⟩ : ∃ wA, w.alloc (.cells X 27 (0, 0)) = wA := ⟨_, rfl⟩
  obtain ⟨wB, hwB⟩ : ∃ wB, wA.alloc (.cells Y 27 (0, 0)) = wB := ⟨_, rfl⟩
  obtain ⟨wC, hwC⟩ : ∃ wC, wB.alloc (.cells Y 27 (0, 0)) = wC := ⟨_, rfl⟩
  have hzA : wA.heap.size = B + 1 := by rw [← hwA, ← hB]; simp
  have hzB : wB.heap.size = B + 2 := by rw [← hwB]; simp; omega
  have hzC : wC.heap.size = B + 3 := by rw [← hwC]; simp; omega
  have hA0 : wA.heap[B]? = some (.cells X 27 (0, 0)) := by rw [← hwA, ← hB]; exact heap_alloc_new w _
  have hB0 : wB.heap[B]? = some (.cells X 27 (0, 0)) := by rw [← hwB]; exact heap_keep hA0
  have hB1 : wB.heap[B + 1]? = some (.cells Y 27 (0, 0)) := by rw [← hwB, ← hzA]; exact heap_alloc_new wA _
  have hC0 : wC.heap[B]? = some (.cells X 27 (0, 0)) := by rw [← hwC]; exact heap_keep hB0
  have hC1 : wC.heap[B + 1]? = some (.cells Y 27 (0, 0)) := by rw [← hwC]; exact heap_keep hB1
  have hC2 : wC.heap[B + 2]? = some (arrO (putS (fun i => levV (f i) q false) 0)) := by
    rw [← hwC, ← hzB]
    refine (heap_alloc_new wB _).trans ?_
    rw [← hY]
    rfl
  have hbC : Below B w wC := by
    rw [← hwC, ← hwB, ← hwA, ← hB]
    exact (((Below.refl _ w).alloc (Nat.le_refl _) _).alloc (by simp) _).alloc (by simp; omega) _
  rw [hX]
  rw [hX] at hidx
  have HIX := Lib.hid hidx
  have HY := Lib.hid hY
  have HWA := Lib.hid hwA
  have HWB := Lib.hid hwB
  have HWC := Lib.hid hwC
  have HB := Lib.hid hB
  clear hX hY hidx hA0 hB0 hB1 hwA hwB hwC hB
  go_enter Try.func12, Try.ntmps12
  go_wp2_with (rw [HWA.out, HB.out, HWB.out, HWC.out]; with_reducible refine wpList_load_row rfl 27 _ rfl B rfl 27 X (0, 0) _ hC0 Try.underlying27 rfl HSX ?_)
  go_loopw [13] (fun z wr => ∃ i : Nat, i ≤ 64 ∧ z = .int .i64 i ∧ wr.heap[B + 1]? = some (.cells Y 27 (0, 0)) ∧ wr.heap[B + 2]? = some (arrO (putS (fun i => levV (f i) q false) i)) ∧ Below B w wr ∧ B + 3 ≤ wr.heap.size) (fun z _ => 64 - (intOf z).toNat)
  case atStart => exact ⟨0, by omega, rfl, hC1, hC2, hbC, by omega⟩
  case round =>
    clear hC0 hC1 hC2 hbC hzA hzB hzC
    obtain ⟨i, hi64, rfl, h1, h2, hb, hz⟩ := hrel
    by_cases hlt : i < 64
    · have hix := fun w => HIX.out w i hlt
      have t0 : decide ((i : Int) < 64) = true := by simp; omega
      have S := Lib.hid (show putS (fun i => levV (f i) q false) (i + 1) = setF (putS (fun i => levV (f i) q false) i) i (levV (f i) q false) from rfl)
      have cv := fun w => inter_code (f i) q w
      generalize levV (f i) q false = y at cv S
      generalize f i = x at cv hix
      have c2 := arr_cell h2 hlt
      have ff := arr_free (i := i) h2
      generalize putS (fun i => levV (f i) q false) i i = y2 at c2
      have PUT := Lib.hid (⟨heap_set h1 (by simp), by rw [S.out]; exact arr_put y h2, hb.setCell (by simp) _, by simp [World.setCell]; omega⟩ : (wr.setCell ⟨B + 2, i, none⟩ (.int .i64 y)).heap[B + 1]? = some (.cells Y 27 (0, 0)) ∧ (wr.setCell ⟨B + 2, i, none⟩ (.int .i64 y)).heap[B + 2]? = some (arrO (putS (fun i => levV (f i) q false) (i + 1))) ∧ Below B w (wr.setCell ⟨B + 2, i, none⟩ (.int .i64 y)) ∧ B + 3 ≤ (wr.setCell ⟨B + 2, i, none⟩ (.int .i64 y)).heap.size)
      clear h1 h2 hb
      go_wp2_with (with_reducible refine (cv _).mono ?_; rintro e w1 ⟨rfl, rfl⟩)
      go_roundw
      case rel => exact ⟨i + 1, by omega, by go_num, PUT.out⟩
      case measure => simp [intOf] <;> omega
    · obtain rfl : i = 64 := by omega
      have t0 : decide ((64 : Int) < 64) = false := by simp
      obtain ⟨V, hV⟩ : ∃ V, arrA (putS (fun i => levV (f i) q false) 64) = V := ⟨_, rfl⟩
      have HV := Lib.hid hV
      have h2' : wr.heap[B + 2]? = some (.cells V 27 (0, 0)) := by rw [← hV]; exact h2
      have HSV : (Try.prog.info? 27).map (·.size) = some V.size := by rw [← hV]; exact arr_sized _
      have HOV : V.all (·.oneCell') = true := by rw [← hV]; exact arrA_one _
      have HYV : Y.size = V.size := by rw [← hV, HSY, arrA_size]
      clear hV h2
      go_wp2_with (first | (with_reducible refine wpList_load_row rfl 27 _ rfl (B + 2) rfl 27 V (0, 0) _ h2' Try.underlying27 rfl HSV ?_) | (with_reducible refine wp_store_arr rfl 27 _ _ rfl (B + 1) V Y rfl rfl 27 h1 HSV HYV HOV ?_; intro w2 hh2 hg2))
      refine bodyPost_ret (results_cell_row rfl _ _ (B + 1) 27 _ (0, 0) _ rfl hh2 Try.underlying27 rfl HSV) rfl ?_
      exact blk_at (levG_false f q) HV.out (by rw [HB.out]; exact hb.grown hg2 (by omega) (fun k hk => by injection hk with hk; omega))
set_option maxRecDepth 100000 in
set_option maxHeartbeats 2000000 in
theorem lblk_true (f : Nat → Int) (q : Int) (w : World) : Calls Try.prog 12 #[.agg (arrA f), .int .i64 q, .bool true] w (BlkGives (levG f q true) w) := by
  obtain ⟨B, hB⟩ : ∃ B, w.heap.size = B := ⟨_, rfl⟩
  obtain ⟨X, hX⟩ : ∃ X, arrA f = X := ⟨_, rfl⟩
  obtain ⟨Y, hY⟩ : ∃ Y, arrA (fun _ => 0) = Y := ⟨_, rfl⟩
  have hidx := fun (w : World) (i : Nat) (h : i < 64) => arr_index f h w
  have hz0 : ∀ w, (zeroValue 27).run Try.prog w = .ok (.agg Y) w := by rw [← hY]; exact arr_zero
  have HSY : Y.size = 64 := by rw [← hY]; exact arrA_size _
  have HSX : (Try.prog.info? 27).map (·.size) = some X.size := by rw [← hX]; exact arr_sized _
  obtain ⟨wA, hwA⟩ : ∃ wA, w.alloc (.cells X 27 (0, 0)) = wA := ⟨_, rfl⟩
  obtain ⟨wB, hwB⟩ : ∃ wB, wA.alloc (.cells Y 27 (0, 0)) = wB := ⟨_, rfl⟩
  obtain ⟨wC, hwC⟩ : ∃ wC, wB.alloc (.cells Y 27 (0, 0)) = wC := ⟨_, rfl⟩
  have hzA : wA.heap.size = B + 1 := by rw [← hwA, ← hB]; simp
  have hzB : wB.heap.size = B + 2 := by rw [← hwB]; simp; omega
  have hzC : wC.heap.size = B + 3 := by rw [← hwC]; simp; omega
  have hA0 : wA.heap[B]? = some (.cells X 27 (0, 0)) := by rw [← hwA, ← hB]; exact heap_alloc_new w _
  have hB0 : wB.heap[B]? = some (.cells X 27 (0, 0)) := by rw [← hwB]; exact heap_keep hA0
  have hB1 : wB.heap[B + 1]? = some (.cells Y 27 (0, 0)) := by rw [← hwB, ← hzA]; exact heap_alloc_new wA _
  have hC0 : wC.heap[B]? = some (.cells X 27 (0, 0)) := by rw [← hwC]; exact heap_keep hB0
  have hC1 : wC.heap[B + 1]? = some (.cells Y 27 (0, 0)) := by rw [← hwC]; exact heap_keep hB1
  have hC2 : wC.heap[B + 2]? = some (arrO (putS (fun i => levV (f i) q true) 0)) := by
    rw [← hwC, ← hzB]
    refine (heap_alloc_new wB _).trans ?_
    rw [← hY]
    rfl
  have hbC : Below B w wC := by
    rw [← hwC, ← hwB, ← hwA, ← hB]
    exact (((Below.refl _ w).alloc (Nat.le_refl _) _).alloc (by simp) _).alloc (by simp; omega) _
  rw [hX]
  rw [hX] at hidx
  have HIX := Lib.hid hidx
  have HY := Lib.hid hY
  have HWA := Lib.hid hwA
  have HWB := Lib.hid hwB
  have HWC := Lib.hid hwC
  have HB := Lib.hid hB
  clear hX hY hidx hA0 hB0 hB1 hwA hwB hwC hB
  go_enter Try.func12, Try.ntmps12
  go_wp2_with (rw [HWA.out, HB.out, HWB.out, HWC.out]; with_reducible refine wpList_load_row rfl 27 _ rfl B rfl 27 X (0, 0) _ hC0 Try.underlying27 rfl HSX ?_)
  go_loopw [13] (fun z wr => ∃ i : Nat, i ≤ 64 ∧ z = .int .i64 i ∧ wr.heap[B + 1]? = some (.cells Y 27 (0, 0)) ∧ wr.heap[B + 2]? = some (arrO (putS (fun i => levV (f i) q true) i)) ∧ Below B w wr ∧ B + 3 ≤ wr.heap.size) (fun z _ => 64 - (intOf z).toNat)
  case atStart => exact ⟨0, by omega, rfl, hC1, hC2, hbC, by omega⟩
  case round =>
    clear hC0 hC1 hC2 hbC hzA hzB hzC
    obtain ⟨i, hi64, rfl, h1, h2, hb, hz⟩ := hrel
    by_cases hlt : i < 64
    · have hix := fun w => HIX.out w i hlt
      have t0 : decide ((i : Int) < 64) = true := by simp; omega
      have S := Lib.hid (show putS (fun i => levV (f i) q true) (i + 1) = setF (putS (fun i => levV (f i) q true) i) i (levV (f i) q true) from rfl)
      have cv := fun w => intra_code (f i) q w
      generalize levV (f i) q true = y at cv S
      generalize f i = x at cv hix
      have c2 := arr_cell h2 hlt
      have ff := arr_free (i := i) h2
      generalize putS (fun i => levV (f i) q true) i i = y2 at c2
      have PUT := Lib.hid (⟨heap_set h1 (by simp), by rw [S.out]; exact arr_put y h2, hb.setCell (by simp) _, by simp [World.setCell]; omega⟩ : (wr.setCell ⟨B + 2, i, none⟩ (.int .i64 y)).heap[B + 1]? = some (.cells Y 27 (0, 0)) ∧ (wr.setCell ⟨B + 2, i, none⟩ (.int .i64 y)).heap[B + 2]? = some (arrO (putS (fun i => levV (f i) q true) (i + 1))) ∧ Below B w (wr.setCell ⟨B + 2, i, none⟩ (.int .i64 y)) ∧ B + 3 ≤ (wr.setCell ⟨B + 2, i, none⟩ (.int .i64 y)).heap.size)
      clear h1 h2 hb
      go_wp2_with (with_reducible refine (cv _).mono ?_; rintro e w1 ⟨rfl, rfl⟩)
      go_roundw
      case rel => exact ⟨i + 1, by omega, by go_num, PUT.out⟩
      case measure => simp [intOf] <;> omega
    · obtain rfl : i = 64 := by omega
      have t0 : decide ((64 : Int) < 64) = false := by simp
      obtain ⟨V, hV⟩ : ∃ V, arrA (setF (putS (fun i => levV (f i) q true) 64) 0 0) = V := ⟨_, rfl⟩
      have HV := Lib.hid hV
      have HSV : (Try.prog.info? 27).map (·.size) = some V.size := by rw [← hV]; exact arr_sized _
      have HOV : V.all (·.oneCell') = true := by rw [← hV]; exact arrA_one _
      have HYV : Y.size = V.size := by rw [← hV, HSY, arrA_size]
      have c2 := arr_cell h2 (show 0 < 64 by omega)
      have ff := arr_free (i := 0) h2
      have PUT := Lib.hid (⟨heap_set h1 (by simp), by rw [← hV]; exact arr_put 0 h2, hb.setCell (by simp) _⟩ : (wr.setCell ⟨B + 2, 0, none⟩ (.int .i64 0)).heap[B + 1]? = some (.cells Y 27 (0, 0)) ∧ (wr.setCell ⟨B + 2, 0, none⟩ (.int .i64 0)).heap[B + 2]? = some (.cells V 27 (0, 0)) ∧ Below B w (wr.setCell ⟨B + 2, 0, none⟩ (.int .i64 0)))
      generalize putS (fun i => levV (f i) q true) 64 0 = y2 at c2
      obtain ⟨wD, hwD⟩ : ∃ wD, wr.setCell ⟨B + 2, 0, none⟩ (.int .i64 0) = wD := ⟨_, rfl⟩
      have hzD : wD.heap.size = wr.heap.size := by rw [← hwD]; simp [World.setCell]
      rw [hwD] at PUT
      obtain ⟨k1, k2, k3⟩ := PUT.out
      have HWD := Lib.hid hwD
      clear hV h2 h1 hwD PUT
      go_wp2_with (first | (rw [HWD.out]; with_reducible refine wpList_load_row rfl 27 _ rfl (B + 2) rfl 27 V (0, 0) _ k2 Try.underlying27 rfl HSV ?_) | (with_reducible refine wp_store_arr rfl 27 _ _ rfl (B + 1) V Y rfl rfl 27 k1 HSV HYV HOV ?_; intro w2 hh2 hg2))
      refine bodyPost_ret (results_cell_row rfl _ _ (B + 1) 27 _ (0, 0) _ rfl hh2 Try.underlying27 rfl HSV) rfl ?_
      exact blk_at (levG_true f q) HV.out (by rw [HB.out]; exact k3.grown hg2 (by omega) (fun k hk => by injection hk with hk; omega))
/-! ### By the page -/
set_option maxRecDepth 100000 in
set_option maxHeartbeats 2000000 in
theorem lblk_page (f : Nat → Int) (q : Int) (intra : Bool) (w : World) : Calls Try.prog 13 #[.agg (arrA f), .int .i64 q, .bool intra] w (BlkGives (levG f q intra) w) := by
  obtain ⟨B, hB⟩ : ∃ B, w.heap.size = B := ⟨_, rfl⟩
  obtain ⟨X, hX⟩ : ∃ X, arrA f = X := ⟨_, rfl⟩
  obtain ⟨Y, hY⟩ : ∃ Y, arrA (fun _ => 0) = Y := ⟨_, rfl⟩
  have hz0 : ∀ w, (zeroValue 27).run Try.prog w = .ok (.agg Y) w := by rw [← hY]; exact arr_zero
  have HSY : Y.size = 64 := by rw [← hY]; exact arrA_size _
  obtain ⟨wA, hwA⟩ : ∃ wA, w.alloc (.cells X 27 (0, 0)) = wA := ⟨_, rfl⟩
  obtain ⟨wB, hwB⟩ : ∃ wB, wA.alloc (.cells Y 27 (0, 0)) = wB := ⟨_, rfl⟩
  obtain ⟨wC, hwC⟩ : ∃ wC, wB.alloc (.cells Y 27 (0, 0)) = wC := ⟨_, rfl⟩
  have hzA : wA.heap.size = B + 1 := by rw [← hwA, ← hB]; simp
  have hzB : wB.heap.size = B + 2 := by rw [← hwB]; simp; omega
  have hzC : wC.heap.size = B + 3 := by rw [← hwC]; simp; omega
  have hA0 : wA.heap[B]? = some (arrO f) := by rw [← hwA, ← hB, ← hX]; exact heap_alloc_new w _
  have hB0 : wB.heap[B]? = some (arrO f) := by rw [← hwB]; exact heap_keep hA0
  have hB1 : wB.heap[B + 1]? = some (.cells Y 27 (0, 0)) := by rw [← hwB, ← hzA]; exact heap_alloc_new wA _
  have hC0 : wC.heap[B]? = some (arrO f) := by rw [← hwC]; exact heap_keep hB0
  have hC1 : wC.heap[B + 1]? = some (.cells Y 27 (0, 0)) := by rw [← hwC]; exact heap_keep hB1
  have hC2 : wC.heap[B + 2]? = some (arrO (putS (levG f q intra) 0)) := by
    rw [← hwC, ← hzB]
    refine (heap_alloc_new wB _).trans ?_
    rw [← hY]
    rfl
  have hbC : Below B w wC := by
    rw [← hwC, ← hwB, ← hwA, ← hB]
    exact (((Below.refl _ w).alloc (Nat.le_refl _) _).alloc (by simp) _).alloc (by simp; omega) _
  rw [hX]
  have HY := Lib.hid hY
  have HWA := Lib.hid hwA
  have HWB := Lib.hid hwB
  have HWC := Lib.hid hwC
  have HB := Lib.hid hB
  clear hX hY hA0 hB0 hB1 hwA hwB hwC hB
  go_enter Try.func13, Try.ntmps13
  go_wp2_with fail
  rw [HWA.out, HB.out, HWB.out, HWC.out]
  go_loopw [8] (fun z wr => ∃ i : Nat, i ≤ 64 ∧ z = .int .i64 i ∧ wr.heap[B]? = some (arrO f) ∧ wr.heap[B + 1]? = some (.cells Y 27 (0, 0)) ∧ wr.heap[B + 2]? = some (arrO (putS (levG f q intra) i)) ∧ Below B w wr ∧ B + 3 ≤ wr.heap.size) (fun z _ => 64 - (intOf z).toNat)
  case atStart => exact ⟨0, by omega, rfl, hC0, hC1, hC2, hbC, by omega⟩
  case round =>
    clear hC0 hC1 hC2 hbC hzA hzB hzC
    obtain ⟨i, hi64, rfl, h0, h1, h2, hb, hz⟩ := hrel
    by_cases hlt : i < 64
    · have t0 : decide ((i : Int) < 64) = true := by simp; omega
      by_cases e0 : i = 0 ∧ intra = true
      · obtain ⟨rfl, rfl⟩ := e0
        have S : arrO (putS (levG f q true) (0 + 1)) = arrO (putS (levG f q true) 0) := by
          unfold arrO
          rw [arrA_congr (f := putS (levG f q true) (0 + 1)) (g := putS (levG f q true) 0) fun p hp => ?_]
          show setF (fun _ => 0) 0 (levG f q true 0) p = 0
          unfold setF levG
          split <;> rfl
        rw [← S] at h2
        have PUT := Lib.hid (⟨h0, h1, h2, hb, hz⟩ : wr.heap[B]? = some (arrO f) ∧ wr.heap[B + 1]? = some (.cells Y 27 (0, 0)) ∧ wr.heap[B + 2]? = some (arrO (putS (levG f q true) (0 + 1))) ∧ Below B w wr ∧ B + 3 ≤ wr.heap.size)
        clear h0 h1 h2 hb S
        go_wp2
        go_roundw
        case rel => exact ⟨0 + 1, by omega, by go_num, PUT.out⟩
        case measure => simp [intOf] <;> omega
      · have S := Lib.hid (show putS (levG f q intra) (i + 1) = setF (putS (levG f q intra) i) i (levV (f i) q intra) from by rw [show levV (f i) q intra = levG f q intra i by unfold levG; rw [if_neg e0]]; rfl)
        have c0 := arr_cell h0 hlt
        have cv := fun w => level_page (f i) q intra w
        generalize levV (f i) q intra = y at cv S
        generalize f i = x at cv c0
        have c2 := arr_cell h2 hlt
        have ff := arr_free (i := i) h2
        have PUT := Lib.hid (⟨heap_set h0 (by simp), heap_set h1 (by simp), by rw [S.out]; exact arr_put y h2, hb.setCell (by simp) _, by simp [World.setCell]; omega⟩ : (wr.setCell ⟨B + 2, i, none⟩ (.int .i64 y)).heap[B]? = some (arrO f) ∧ (wr.setCell ⟨B + 2, i, none⟩ (.int .i64 y)).heap[B + 1]? = some (.cells Y 27 (0, 0)) ∧ (wr.setCell ⟨B + 2, i, none⟩ (.int .i64 y)).heap[B + 2]? = some (arrO (putS (levG f q intra) (i + 1))) ∧ Below B w (wr.setCell ⟨B + 2, i, none⟩ (.int .i64 y)) ∧ B + 3 ≤ (wr.setCell ⟨B + 2, i, none⟩ (.int .i64 y)).heap.size)
        generalize putS (levG f q intra) i i = y2 at c2
        clear h0 h1 h2 hb S
        by_cases e1 : i = 0
        · subst e1
          obtain rfl : intra = false := by cases intra with | false => rfl | true => exact absurd ⟨rfl, rfl⟩ e0
          clear e0
          go_wp2_with (with_reducible refine (cv _).mono ?_; rintro e w1 ⟨rfl, rfl⟩)
          go_roundw
          case rel => exact ⟨0 + 1, by omega, by go_num, PUT.out⟩
          case measure => simp [intOf] <;> omega
        · have t1 : 0 < i := by omega
          clear e0
          go_wp2_with (with_reducible refine (cv _).mono ?_; rintro e w1 ⟨rfl, rfl⟩)
          go_roundw
          case rel => exact ⟨i + 1, by omega, by go_num, PUT.out⟩
          case measure => simp [intOf] <;> omega
    · obtain rfl : i = 64 := by omega
      have t0 : decide ((64 : Int) < 64) = false := by simp
      obtain ⟨V, hV⟩ : ∃ V, arrA (putS (levG f q intra) 64) = V := ⟨_, rfl⟩
      have HV := Lib.hid hV
      have h2' : wr.heap[B + 2]? = some (.cells V 27 (0, 0)) := by rw [← hV]; exact h2
      have HSV : (Try.prog.info? 27).map (·.size) = some V.size := by rw [← hV]; exact arr_sized _
      have HOV : V.all (·.oneCell') = true := by rw [← hV]; exact arrA_one _
      have HYV : Y.size = V.size := by rw [← hV, HSY, arrA_size]
      clear hV h2 h0
      go_wp2_with (first | (with_reducible refine wpList_load_row rfl 27 _ rfl (B + 2) rfl 27 V (0, 0) _ h2' Try.underlying27 rfl HSV ?_) | (with_reducible refine wp_store_arr rfl 27 _ _ rfl (B + 1) V Y rfl rfl 27 h1 HSV HYV HOV ?_; intro w2 hh2 hg2))
      refine bodyPost_ret (results_cell_row rfl _ _ (B + 1) 27 _ (0, 0) _ rfl hh2 Try.underlying27 rfl HSV) rfl ?_
      exact blk_at (putS_all (levG f q intra)) HV.out (by rw [HB.out]; exact hb.grown hg2 (by omega) (fun k hk => by injection hk with hk; omega))
end Go.Proofs.Ytgldkllmabkckaa
