/- Package scale and the document's own answer of layer 12: the values of a block. No condition. -/
import Derived.Test.YtifdbmkmicaneaaVal
import Derived.Test.YtifdbmkmicaneaaArr
import Derived.WalkMore
namespace Go.Proofs.Ytifdbmkmicaneaa
open Go.RowKit Go.Lib

/-- The values of a block. -/
def valF (f : Nat → Int) (q : Int) (intra : Bool) (dc : Int) (i : Nat) : Int := if i = 0 ∧ intra = true then dcV dc else valV (f i) q
/-- Made number by number; number 0 with the others. -/
def valS (f : Nat → Int) (q : Int) : Nat → (Nat → Int)
  | 0 => fun _ => 0
  | k + 1 => setF (valS f q k) k (valV (f k) q)
theorem valS_at (f : Nat → Int) (q : Int) : ∀ k p, valS f q k p = if p < k then valV (f p) q else 0
  | 0, p => rfl
  | k + 1, p => by
    unfold valS setF
    by_cases e : p = k
    · subst e
      rw [if_pos rfl, if_pos (by omega)]
    · rw [if_neg e, valS_at f q k p]
      by_cases hlt : p < k
      · rw [if_pos hlt, if_pos (by omega)]
      · rw [if_neg hlt, if_neg (by omega)]
theorem valS_plain (f : Nat → Int) (q dc : Int) : ∀ p, p < 64 → valS f q 64 p = valF f q false dc p := by
  intro p hp
  rw [valS_at, if_pos hp]
  unfold valF
  rw [if_neg (by simp)]
theorem valS_intra (f : Nat → Int) (q dc : Int) : ∀ p, p < 64 → setF (valS f q 64) 0 (dcV dc) p = valF f q true dc p := by
  intro p hp
  unfold setF valF
  by_cases e : p = 0
  · rw [if_pos e, if_pos ⟨e, rfl⟩]
  · rw [if_neg e, if_neg (by simp [e]), valS_at, if_pos hp]
/-- Made as the page makes them. -/
def pagS (f : Nat → Int) (q : Int) (intra : Bool) (dc : Int) : Nat → (Nat → Int)
  | 0 => fun _ => 0
  | k + 1 => setF (pagS f q intra dc k) k (valF f q intra dc k)
theorem pagS_at (f : Nat → Int) (q : Int) (intra : Bool) (dc : Int) : ∀ k p, pagS f q intra dc k p = if p < k then valF f q intra dc p else 0
  | 0, p => rfl
  | k + 1, p => by
    unfold pagS setF
    by_cases e : p = k
    · subst e
      rw [if_pos rfl, if_pos (by omega)]
    · rw [if_neg e, pagS_at f q intra dc k p]
      by_cases hlt : p < k
      · rw [if_pos hlt, if_pos (by omega)]
      · rw [if_neg hlt, if_neg (by omega)]
theorem pagS_all (f : Nat → Int) (q : Int) (intra : Bool) (dc : Int) : ∀ p, p < 64 → pagS f q intra dc 64 p = valF f q intra dc p := by
  intro p hp
  rw [pagS_at, if_pos hp]

/-- What a call that answers a block gives. -/
def BlkGives (g : Nat → Int) (w : World) (e : Ending) (w' : World) : Prop := e = .returned (.agg (arrA g)) ∧ Below w.heap.size w w'
theorem blk_at {g h : Nat → Int} {w w' : World} {Z : Array Value} (hg : ∀ i, i < 64 → h i = g i) (hZ : arrA h = Z) (hb : Below w.heap.size w w') : BlkGives g w (.returned (.agg Z)) w' := by
  unfold BlkGives
  rw [← hZ, arrA_congr hg]
  exact ⟨rfl, hb⟩
set_option maxRecDepth 100000 in
set_option maxHeartbeats 2000000 in
theorem blk_code (f : Nat → Int) (q : Int) (intra : Bool) (dc : Int) (w : World) : Calls Try.prog 11 #[.agg (arrA f), .int .i64 q, .bool intra, .int .i64 dc] w (BlkGives (valF f q intra dc) w) := by
  obtain ⟨B, hB⟩ : ∃ B, w.heap.size = B := ⟨_, rfl⟩
  obtain ⟨X, hX⟩ : ∃ X, arrA f = X := ⟨_, rfl⟩
  obtain ⟨Y, hY⟩ : ∃ Y, arrA (fun _ => 0) = Y := ⟨_, rfl⟩
  have hidx := fun (w : World) (i : Nat) (h : i < 64) => arr_index f h w
  have hz0 : ∀ w, (zeroValue 26).run Try.prog w = .ok (.agg Y) w := by rw [← hY]; exact arr_zero
  have HSY : Y.size = 64 := by rw [← hY]; exact arrA_size _
  have HSX : (Try.prog.info? 26).map (·.size) = some X.size := by rw [← hX]; exact arr_sized _
  obtain ⟨wA, hwA⟩ : ∃ wA, w.alloc (.cells X 26 (0, 0)) = wA := ⟨_, rfl⟩
  obtain ⟨wB, hwB⟩ : ∃ wB, wA.alloc (.cells Y 26 (0, 0)) = wB := ⟨_, rfl⟩
  obtain ⟨wC, hwC⟩ : ∃ wC, wB.alloc (.cells Y 26 (0, 0)) = wC := ⟨_, rfl⟩
  have hzA : wA.heap.size = B + 1 := by rw [← hwA, ← hB]; simp
  have hzB : wB.heap.size = B + 2 := by rw [← hwB]; simp; omega
  have hzC : wC.heap.size = B + 3 := by rw [← hwC]; simp; omega
  have hA0 : wA.heap[B]? = some (.cells X 26 (0, 0)) := by rw [← hwA, ← hB]; exact heap_alloc_new w _
  have hB0 : wB.heap[B]? = some (.cells X 26 (0, 0)) := by rw [← hwB]; exact heap_keep hA0
  have hB1 : wB.heap[B + 1]? = some (.cells Y 26 (0, 0)) := by rw [← hwB, ← hzA]; exact heap_alloc_new wA _
  have hC0 : wC.heap[B]? = some (.cells X 26 (0, 0)) := by rw [← hwC]; exact heap_keep hB0
  have hC1 : wC.heap[B + 1]? = some (.cells Y 26 (0, 0)) := by rw [← hwC]; exact heap_keep hB1
  have hC2 : wC.heap[B + 2]? = some (arrO (valS f q 0)) := by
    rw [← hwC, ← hzB]
    refine (heap_alloc_new wB _).trans ?_
    rw [← hY]
    rfl
  have hbC : Below B w wC := by
    rw [← hwC, ← hwB, ← hwA, ← hB]
    exact (((Below.refl _ w).alloc (Nat.le_refl _) _).alloc (by simp) _).alloc (by simp; omega) _
  rw [hX]
  rw [hX] at hidx
  have HIX := Lib.hid hidx
  have HY := Lib.hid hY
  have HWA := Lib.hid hwA
  have HWB := Lib.hid hwB
  have HWC := Lib.hid hwC
  have HB := Lib.hid hB
  clear hX hY hidx hA0 hB0 hB1 hwA hwB hwC hB
  go_enter Try.func11, Try.ntmps11
  go_wp2_with (rw [HWA.out, HB.out, HWB.out, HWC.out]; with_reducible refine wpList_load_row rfl 26 _ rfl B rfl 26 X (0, 0) _ hC0 Try.underlying26 rfl HSX ?_)
  go_loopw [13] (fun z wr => ∃ i : Nat, i ≤ 64 ∧ z = .int .i64 i ∧ wr.heap[B + 1]? = some (.cells Y 26 (0, 0)) ∧ wr.heap[B + 2]? = some (arrO (valS f q i)) ∧ Below B w wr ∧ B + 3 ≤ wr.heap.size) (fun z _ => 64 - (intOf z).toNat)
  case atStart => exact ⟨0, by omega, rfl, hC1, hC2, hbC, by omega⟩
  case round =>
    clear hC0 hC1 hC2 hbC hzA hzB hzC
    obtain ⟨i, hi64, rfl, h1, h2, hb, hz⟩ := hrel
    by_cases hlt : i < 64
    · have hix := fun w => HIX.out w i hlt
      have t0 : decide ((i : Int) < 64) = true := by simp; omega
      have S := Lib.hid (show valS f q (i + 1) = setF (valS f q i) i (valV (f i) q) from rfl)
      have cv := fun w => val_code (f i) q w
      generalize valV (f i) q = y at cv S
      generalize f i = x at cv hix
      have c2 := arr_cell h2 hlt
      have ff := arr_free (i := i) h2
      generalize valS f q i i = y2 at c2
      have PUT := Lib.hid (⟨heap_set h1 (by simp), by rw [S.out]; exact arr_put y h2, hb.setCell (by simp) _, by simp [World.setCell]; omega⟩ : (wr.setCell ⟨B + 2, i, none⟩ (.int .i64 y)).heap[B + 1]? = some (.cells Y 26 (0, 0)) ∧ (wr.setCell ⟨B + 2, i, none⟩ (.int .i64 y)).heap[B + 2]? = some (arrO (valS f q (i + 1))) ∧ Below B w (wr.setCell ⟨B + 2, i, none⟩ (.int .i64 y)) ∧ B + 3 ≤ (wr.setCell ⟨B + 2, i, none⟩ (.int .i64 y)).heap.size)
      clear h1 h2 hb
      go_wp2_with (with_reducible refine (cv _).mono ?_; rintro e w1 ⟨rfl, rfl⟩)
      go_roundw
      case rel => exact ⟨i + 1, by omega, by go_num, PUT.out⟩
      case measure => simp [intOf] <;> omega
    · obtain rfl : i = 64 := by omega
      have t0 : decide ((64 : Int) < 64) = false := by simp
      cases intra with
      | false =>
        obtain ⟨V, hV⟩ : ∃ V, arrA (valS f q 64) = V := ⟨_, rfl⟩
        have HV := Lib.hid hV
        have h2' : wr.heap[B + 2]? = some (.cells V 26 (0, 0)) := by rw [← hV]; exact h2
        have HSV : (Try.prog.info? 26).map (·.size) = some V.size := by rw [← hV]; exact arr_sized _
        have HOV : V.all (·.oneCell') = true := by rw [← hV]; exact arrA_one _
        have HYV : Y.size = V.size := by rw [← hV, HSY, arrA_size]
        clear hV h2
        go_wp2_with (first | (with_reducible refine wpList_load_row rfl 26 _ rfl (B + 2) rfl 26 V (0, 0) _ h2' Try.underlying26 rfl HSV ?_) | (with_reducible refine wp_store_arr rfl 26 _ _ rfl (B + 1) V Y rfl rfl 26 h1 HSV HYV HOV ?_; intro w2 hh2 hg2))
        refine bodyPost_ret (results_cell_row rfl _ _ (B + 1) 26 _ (0, 0) _ rfl hh2 Try.underlying26 rfl HSV) rfl ?_
        exact blk_at (valS_plain f q dc) HV.out (by rw [HB.out]; exact hb.grown hg2 (by omega) (fun k hk => by injection hk with hk; omega))
      | true =>
        have cd := fun w => dc_code dc w
        obtain ⟨V, hV⟩ : ∃ V, arrA (setF (valS f q 64) 0 (dcV dc)) = V := ⟨_, rfl⟩
        have HV := Lib.hid hV
        have HSV : (Try.prog.info? 26).map (·.size) = some V.size := by rw [← hV]; exact arr_sized _
        have HOV : V.all (·.oneCell') = true := by rw [← hV]; exact arrA_one _
        have HYV : Y.size = V.size := by rw [← hV, HSY, arrA_size]
        have c2 := arr_cell h2 (show 0 < 64 by omega)
        have ff := arr_free (i := 0) h2
        generalize dcV dc = y at cd hV
        have PUT := Lib.hid (⟨heap_set h1 (by simp), by rw [← hV]; exact arr_put y h2, hb.setCell (by simp) _⟩ : (wr.setCell ⟨B + 2, 0, none⟩ (.int .i64 y)).heap[B + 1]? = some (.cells Y 26 (0, 0)) ∧ (wr.setCell ⟨B + 2, 0, none⟩ (.int .i64 y)).heap[B + 2]? = some (.cells V 26 (0, 0)) ∧ Below B w (wr.setCell ⟨B + 2, 0, none⟩ (.int .i64 y)))
        generalize valS f q 64 0 = y2 at c2
        obtain ⟨wD, hwD⟩ : ∃ wD, wr.setCell ⟨B + 2, 0, none⟩ (.int .i64 y) = wD := ⟨_, rfl⟩
        have hzD : wD.heap.size = wr.heap.size := by rw [← hwD]; simp [World.setCell]
        rw [hwD] at PUT
        obtain ⟨k1, k2, k3⟩ := PUT.out
        have HWD := Lib.hid hwD
        clear hV h2 h1 hwD PUT
        go_wp2_with (first | (with_reducible refine (cd _).mono ?_; rintro e w1 ⟨rfl, rfl⟩) | (rw [HWD.out]; with_reducible refine wpList_load_row rfl 26 _ rfl (B + 2) rfl 26 V (0, 0) _ k2 Try.underlying26 rfl HSV ?_) | (with_reducible refine wp_store_arr rfl 26 _ _ rfl (B + 1) V Y rfl rfl 26 k1 HSV HYV HOV ?_; intro w2 hh2 hg2))
        refine bodyPost_ret (results_cell_row rfl _ _ (B + 1) 26 _ (0, 0) _ rfl hh2 Try.underlying26 rfl HSV) rfl ?_
        exact blk_at (valS_intra f q dc) HV.out (by rw [HB.out]; exact k3.grown hg2 (by omega) (fun k hk => by injection hk with hk; omega))
set_option maxRecDepth 100000 in
set_option maxHeartbeats 2000000 in
theorem blk_page (f : Nat → Int) (q : Int) (intra : Bool) (dc : Int) (w : World) : Calls Try.prog 12 #[.agg (arrA f), .int .i64 q, .bool intra, .int .i64 dc] w (BlkGives (valF f q intra dc) w) := by
  obtain ⟨B, hB⟩ : ∃ B, w.heap.size = B := ⟨_, rfl⟩
  obtain ⟨X, hX⟩ : ∃ X, arrA f = X := ⟨_, rfl⟩
  obtain ⟨Y, hY⟩ : ∃ Y, arrA (fun _ => 0) = Y := ⟨_, rfl⟩
  have hz0 : ∀ w, (zeroValue 26).run Try.prog w = .ok (.agg Y) w := by rw [← hY]; exact arr_zero
  have HSY : Y.size = 64 := by rw [← hY]; exact arrA_size _
  obtain ⟨wA, hwA⟩ : ∃ wA, w.alloc (.cells X 26 (0, 0)) = wA := ⟨_, rfl⟩
  obtain ⟨wB, hwB⟩ : ∃ wB, wA.alloc (.cells Y 26 (0, 0)) = wB := ⟨_, rfl⟩
  obtain ⟨wC, hwC⟩ : ∃ wC, wB.alloc (.cells Y 26 (0, 0)) = wC := ⟨_, rfl⟩
  have hzA : wA.heap.size = B + 1 := by rw [← hwA, ← hB]; simp
  have hzB : wB.heap.size = B + 2 := by rw [← hwB]; simp; omega
  have hzC : wC.heap.size = B + 3 := by rw [← hwC]; simp; omega
  have hA0 : wA.heap[B]? = some (arrO f) := by rw [← hwA, ← hB, ← hX]; exact heap_alloc_new w _
  have hB0 : wB.heap[B]? = some (arrO f) := by rw [← hwB]; exact heap_keep hA0
  have hB1 : wB.heap[B + 1]? = some (.cells Y 26 (0, 0)) := by rw [← hwB, ← hzA]; exact heap_alloc_new wA _
  have hC0 : wC.heap[B]? = some (arrO f) := by rw [← hwC]; exact heap_keep hB0
  have hC1 : wC.heap[B + 1]? = some (.cells Y 26 (0, 0)) := by rw [← hwC]; exact heap_keep hB1
  have hC2 : wC.heap[B + 2]? = some (arrO (pagS f q intra dc 0)) := by
    rw [← hwC, ← hzB]
    refine (heap_alloc_new wB _).trans ?_
    rw [← hY]
    rfl
  have hbC : Below B w wC := by
    rw [← hwC, ← hwB, ← hwA, ← hB]
    exact (((Below.refl _ w).alloc (Nat.le_refl _) _).alloc (by simp) _).alloc (by simp; omega) _
  rw [hX]
  have HY := Lib.hid hY
  have HWA := Lib.hid hwA
  have HWB := Lib.hid hwB
  have HWC := Lib.hid hwC
  have HB := Lib.hid hB
  clear hX hY hA0 hB0 hB1 hwA hwB hwC hB
  go_enter Try.func12, Try.ntmps12
  go_wp2_with fail
  rw [HWA.out, HB.out, HWB.out, HWC.out]
  go_loopw [10] (fun z wr => ∃ i : Nat, i ≤ 64 ∧ z = .int .i64 i ∧ wr.heap[B]? = some (arrO f) ∧ wr.heap[B + 1]? = some (.cells Y 26 (0, 0)) ∧ wr.heap[B + 2]? = some (arrO (pagS f q intra dc i)) ∧ Below B w wr ∧ B + 3 ≤ wr.heap.size) (fun z _ => 64 - (intOf z).toNat)
  case atStart => exact ⟨0, by omega, rfl, hC0, hC1, hC2, hbC, by omega⟩
  case round =>
    clear hC0 hC1 hC2 hbC hzA hzB hzC
    obtain ⟨i, hi64, rfl, h0, h1, h2, hb, hz⟩ := hrel
    by_cases hlt : i < 64
    · have t0 : decide ((i : Int) < 64) = true := by simp; omega
      by_cases e0 : i = 0
      · subst e0
        cases intra with
        | false =>
          have S := Lib.hid (show pagS f q false dc (0 + 1) = setF (pagS f q false dc 0) 0 (valV (f 0) q) from rfl)
          have c0 := arr_cell h0 hlt
          have cv := fun w => val_page (f 0) q w
          generalize valV (f 0) q = y at cv S
          generalize f 0 = x at cv c0
          have c2 := arr_cell h2 hlt
          have ff := arr_free (i := 0) h2
          have PUT := Lib.hid (⟨heap_set h0 (by simp), heap_set h1 (by simp), by rw [S.out]; exact arr_put y h2, hb.setCell (by simp) _, by simp [World.setCell]; omega⟩ : (wr.setCell ⟨B + 2, 0, none⟩ (.int .i64 y)).heap[B]? = some (arrO f) ∧ (wr.setCell ⟨B + 2, 0, none⟩ (.int .i64 y)).heap[B + 1]? = some (.cells Y 26 (0, 0)) ∧ (wr.setCell ⟨B + 2, 0, none⟩ (.int .i64 y)).heap[B + 2]? = some (arrO (pagS f q false dc (0 + 1))) ∧ Below B w (wr.setCell ⟨B + 2, 0, none⟩ (.int .i64 y)) ∧ B + 3 ≤ (wr.setCell ⟨B + 2, 0, none⟩ (.int .i64 y)).heap.size)
          generalize pagS f q false dc 0 0 = y2 at c2
          clear h0 h1 h2 hb
          go_wp2_with (with_reducible refine (cv _).mono ?_; rintro e w1 ⟨rfl, rfl⟩)
          go_roundw
          case rel => exact ⟨0 + 1, by omega, by go_num, PUT.out⟩
          case measure => simp [intOf] <;> omega
        | true =>
          have S := Lib.hid (show pagS f q true dc (0 + 1) = setF (pagS f q true dc 0) 0 (dcV dc) from rfl)
          have c0 := arr_cell h0 hlt
          have cv := fun w => val_page (f 0) q w
          have cd := fun w => dc_page dc w
          generalize dcV dc = z at cd S
          generalize valV (f 0) q = y at cv
          generalize f 0 = x at cv c0
          have c2 := arr_cell h2 hlt
          have ff := arr_free (i := 0) h2
          have hx1 : (wr.setCell ⟨B + 2, 0, none⟩ (.int .i64 y)).heap[B + 2]? = some (arrO (setF (pagS f q true dc 0) 0 y)) := arr_put y h2
          have c3 := arr_cell hx1 (show 0 < 64 by omega)
          have f3 := arr_free (i := 0) hx1
          rw [show setF (pagS f q true dc 0) 0 y 0 = y from rfl] at c3
          have S2 : ∀ g : Nat → Int, setF (setF g 0 y) 0 z = setF g 0 z := fun g => funext fun k => by unfold setF; split <;> rfl
          have PUT := Lib.hid (⟨heap_set (heap_set h0 (by simp)) (by simp), heap_set (heap_set h1 (by simp)) (by simp), (by rw [S.out, ← S2]; exact arr_put z hx1), (hb.setCell (by simp) _).setCell (by simp) _, by simp [World.setCell]; omega⟩ : ((wr.setCell ⟨B + 2, 0, none⟩ (.int .i64 y)).setCell ⟨B + 2, 0, none⟩ (.int .i64 z)).heap[B]? = some (arrO f) ∧ ((wr.setCell ⟨B + 2, 0, none⟩ (.int .i64 y)).setCell ⟨B + 2, 0, none⟩ (.int .i64 z)).heap[B + 1]? = some (.cells Y 26 (0, 0)) ∧ ((wr.setCell ⟨B + 2, 0, none⟩ (.int .i64 y)).setCell ⟨B + 2, 0, none⟩ (.int .i64 z)).heap[B + 2]? = some (arrO (pagS f q true dc (0 + 1))) ∧ Below B w ((wr.setCell ⟨B + 2, 0, none⟩ (.int .i64 y)).setCell ⟨B + 2, 0, none⟩ (.int .i64 z)) ∧ B + 3 ≤ ((wr.setCell ⟨B + 2, 0, none⟩ (.int .i64 y)).setCell ⟨B + 2, 0, none⟩ (.int .i64 z)).heap.size)
          generalize pagS f q true dc 0 0 = y2 at c2
          clear hx1
          clear h0 h1 h2 hb
          go_wp2_with (first | (with_reducible refine (cv _).mono ?_; rintro e w1 ⟨rfl, rfl⟩) | (with_reducible refine (cd _).mono ?_; rintro e w1 ⟨rfl, rfl⟩))
          go_roundw
          case rel => exact ⟨0 + 1, by omega, by go_num, PUT.out⟩
          case measure => simp [intOf] <;> omega
      · have t1 : ((i : Int) == 0) = false := by simpa using e0
        have S := Lib.hid (show pagS f q intra dc (i + 1) = setF (pagS f q intra dc i) i (valV (f i) q) from by rw [show valV (f i) q = valF f q intra dc i by unfold valF; rw [if_neg (by simp [e0])]]; rfl)
        have c0 := arr_cell h0 hlt
        have cv := fun w => val_page (f i) q w
        generalize valV (f i) q = y at cv S
        generalize f i = x at cv c0
        have c2 := arr_cell h2 hlt
        have ff := arr_free (i := i) h2
        have PUT := Lib.hid (⟨heap_set h0 (by simp), heap_set h1 (by simp), by rw [S.out]; exact arr_put y h2, hb.setCell (by simp) _, by simp [World.setCell]; omega⟩ : (wr.setCell ⟨B + 2, i, none⟩ (.int .i64 y)).heap[B]? = some (arrO f) ∧ (wr.setCell ⟨B + 2, i, none⟩ (.int .i64 y)).heap[B + 1]? = some (.cells Y 26 (0, 0)) ∧ (wr.setCell ⟨B + 2, i, none⟩ (.int .i64 y)).heap[B + 2]? = some (arrO (pagS f q intra dc (i + 1))) ∧ Below B w (wr.setCell ⟨B + 2, i, none⟩ (.int .i64 y)) ∧ B + 3 ≤ (wr.setCell ⟨B + 2, i, none⟩ (.int .i64 y)).heap.size)
        generalize pagS f q intra dc i i = y2 at c2
        clear h0 h1 h2 hb
        go_wp2_with (with_reducible refine (cv _).mono ?_; rintro e w1 ⟨rfl, rfl⟩)
        go_roundw
        case rel => exact ⟨i + 1, by omega, by go_num, PUT.out⟩
        case measure => simp [intOf] <;> omega
    · obtain rfl : i = 64 := by omega
      have t0 : decide ((64 : Int) < 64) = false := by simp
      obtain ⟨V, hV⟩ : ∃ V, arrA (pagS f q intra dc 64) = V := ⟨_, rfl⟩
      have HV := Lib.hid hV
      have h2' : wr.heap[B + 2]? = some (.cells V 26 (0, 0)) := by rw [← hV]; exact h2
      have HSV : (Try.prog.info? 26).map (·.size) = some V.size := by rw [← hV]; exact arr_sized _
      have HOV : V.all (·.oneCell') = true := by rw [← hV]; exact arrA_one _
      have HYV : Y.size = V.size := by rw [← hV, HSY, arrA_size]
      clear hV h2 h0
      go_wp2_with (first | (with_reducible refine wpList_load_row rfl 26 _ rfl (B + 2) rfl 26 V (0, 0) _ h2' Try.underlying26 rfl HSV ?_) | (with_reducible refine wp_store_arr rfl 26 _ _ rfl (B + 1) V Y rfl rfl 26 h1 HSV HYV HOV ?_; intro w2 hh2 hg2))
      refine bodyPost_ret (results_cell_row rfl _ _ (B + 1) 26 _ (0, 0) _ rfl hh2 Try.underlying26 rfl HSV) rfl ?_
      exact blk_at (pagS_all f q intra dc) HV.out (by rw [HB.out]; exact hb.grown hg2 (by omega) (fun k hk => by injection hk with hk; omega))
end Go.Proofs.Ytifdbmkmicaneaa
