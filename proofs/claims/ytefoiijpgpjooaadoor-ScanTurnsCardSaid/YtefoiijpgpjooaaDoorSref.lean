/- The document's own answers of layer 11 (scan): the order of the places, a block laid, and told. No condition. -/
import Derived.Test.YtefoiijpgpjooaaDoorScan
import Derived.Laws.OwnMore
namespace Go.Proofs.YtefoiijpgpjooaaDoor
open Go.RowKit Go.Lib

/-! ### The order, diagonal by diagonal -/
def rowD (d i : Nat) : Nat := if d % 2 = 0 then 7 - i else i
/-- Does step i of diagonal d tell a place? -/
def okD (d i : Nat) : Bool := decide (rowD d i ≤ d) && decide (d - rowD d i < 8)
/-- How many steps of diagonal d, ahead of step i, tell places; and of the diagonals ahead of d. -/
def cntI (d : Nat) : Nat → Nat
  | 0 => 0
  | i + 1 => cntI d i + if okD d i then 1 else 0
def cntD : Nat → Nat
  | 0 => 0
  | d + 1 => cntD d + cntI d 8
theorem cnt_step : ∀ d, d < 15 → ∀ i, i < 8 → okD d i = true → placeAt (cntD d + cntI d i) = 8 * rowD d i + (d - rowD d i) ∧ cntD d + cntI d i < 64 := by decide +kernel
theorem cnt_most : ∀ d, d < 15 → ∀ i, i ≤ 8 → cntD d + cntI d i ≤ 64 := by decide +kernel
theorem cnt_all : cntD 15 = 64 := by decide +kernel
theorem cntI_yes {d i : Nat} (h : okD d i = true) : cntI d (i + 1) = cntI d i + 1 := by simp [cntI, h]
theorem cntI_no {d i : Nat} (h : okD d i = false) : cntI d (i + 1) = cntI d i := by simp [cntI, h]
/-- The first n places. -/
def upF (n : Nat) (j : Nat) : Int := if j < n then ((placeAt j : Nat) : Int) else 0
theorem upF_step (n : Nat) : setF (upF n) n ((placeAt n : Nat) : Int) = upF (n + 1) := by
  funext j
  unfold setF upF
  by_cases e : j = n
  · subst e
    rw [if_pos rfl, if_pos (by omega)]
  · rw [if_neg e]
    by_cases h : j < n
    · rw [if_pos h, if_pos (by omega)]
    · rw [if_neg h, if_neg (by omega)]
theorem upF_all : ∀ i, i < 64 → upF 64 i = placeF i := by
  intro i hi
  unfold upF
  rw [if_pos hi]
  rfl
set_option maxRecDepth 100000 in
set_option maxHeartbeats 4000000 in
theorem order_page (w : World) : Calls Tryd.prog 9 #[] w (BlkGives placeF w) := by
  obtain ⟨B, hB⟩ : ∃ B, w.heap.size = B := ⟨_, rfl⟩
  obtain ⟨Y, hY⟩ : ∃ Y, arrA (fun _ => 0) = Y := ⟨_, rfl⟩
  have hz0 : ∀ w, (zeroValue 25).run Tryd.prog w = .ok (.agg Y) w := by rw [← hY]; exact arr_zero
  have HSY : Y.size = 64 := by rw [← hY]; exact arrA_size _
  obtain ⟨wA, hwA⟩ : ∃ wA, w.alloc (.cells Y 25 (0, 0)) = wA := ⟨_, rfl⟩
  obtain ⟨wB, hwB⟩ : ∃ wB, wA.alloc (.cells Y 25 (0, 0)) = wB := ⟨_, rfl⟩
  have hzA : wA.heap.size = B + 1 := by rw [← hwA, ← hB]; simp
  have hzB : wB.heap.size = B + 2 := by rw [← hwB]; simp; omega
  have hA0 : wA.heap[B]? = some (.cells Y 25 (0, 0)) := by rw [← hwA, ← hB]; exact heap_alloc_new w _
  have hB0 : wB.heap[B]? = some (.cells Y 25 (0, 0)) := by rw [← hwB]; exact heap_keep hA0
  have hB1 : wB.heap[B + 1]? = some (arrO (upF 0)) := by
    rw [← hwB, ← hzA]
    refine (heap_alloc_new wA _).trans ?_
    rw [← hY]
    rfl
  have hbB : Below B w wB := by
    rw [← hwB, ← hwA, ← hB]
    exact ((Below.refl _ w).alloc (Nat.le_refl _) _).alloc (by simp) _
  have HY := Lib.hid hY
  have HWA := Lib.hid hwA
  have HWB := Lib.hid hwB
  have HB := Lib.hid hB
  clear hY hA0 hwA hwB hB
  go_enter Tryd.func9, Tryd.ntmps9
  go_wp2
  rw [HWA.out, HB.out, HWB.out]
  go_loopw [2, 3] (fun u z wr => ∃ d n : Nat, d ≤ 15 ∧ z = .int .i64 d ∧ u = .int .i64 n ∧ Hid (cntD d = n) ∧ wr.heap[B]? = some (.cells Y 25 (0, 0)) ∧ wr.heap[B + 1]? = some (arrO (upF n)) ∧ Below B w wr ∧ B + 2 ≤ wr.heap.size) (fun _ z _ => 15 - (intOf z).toNat)
  case atStart => exact ⟨0, 0, by omega, rfl, rfl, Lib.hid rfl, hB0, hB1, hbB, by omega⟩
  case round =>
    clear hB0 hB1 hbB hzA hzB
    obtain ⟨d, n0, hd15, rfl, rfl, hn0, h0, h1, hb, hz⟩ := hrel
    by_cases hlt : d < 15
    · have t0 : decide ((d : Int) < 15) = true := by simp; omega
      have ST := Lib.hid (fun (i : Nat) (hi : i < 8) (ho : okD d i = true) => cnt_step d hlt i hi ho)
      have MO := Lib.hid (fun (i : Nat) (hi : i ≤ 8) => cnt_most d hlt i hi)
      have N0 := hn0
      rw [show cntD d = cntD d from rfl] at N0
      go_wp2
      go_loopw [2, 4] (fun u z wr => ∃ i n : Nat, i ≤ 8 ∧ z = .int .i64 i ∧ u = .int .i64 n ∧ n ≤ 64 ∧ Hid (cntD d + cntI d i = n) ∧ wr.heap[B]? = some (.cells Y 25 (0, 0)) ∧ wr.heap[B + 1]? = some (arrO (upF n)) ∧ Below B w wr ∧ B + 2 ≤ wr.heap.size) (fun _ z _ => 8 - (intOf z).toNat)
      case atStart => exact ⟨0, n0, by omega, rfl, rfl, by have := MO.out 0 (by omega); have := hn0.out; simp [cntI] at *; omega, Lib.hid hn0.out, h0, h1, hb, hz⟩
      case round =>
        clear h0 h1 hb hz
        obtain ⟨i, n, hi8, rfl, rfl, hn64, hn, h0, h1, hb, hz⟩ := hrel
        by_cases hli : i < 8
        · have t1 : decide ((i : Int) < 8) = true := by simp; omega
          obtain ⟨r, hr⟩ : ∃ r, rowD d i = r := ⟨_, rfl⟩
          have hr7 : r ≤ 7 := by rw [← hr]; unfold rowD; split <;> omega
          have OK := Lib.hid (show okD d i = (decide (r ≤ d) && decide (d - r < 8)) by unfold okD; rw [hr])
          have PL := Lib.hid (fun (ho : okD d i = true) => (by have := ST.out i hli ho; rw [hn.out, hr] at this; exact this : placeAt n = 8 * r + (d - r) ∧ n < 64))
          have YES := Lib.hid (fun (ho : okD d i = true) => (by rw [cntI_yes ho, ← Nat.add_assoc, hn.out] : cntD d + cntI d (i + 1) = n + 1))
          have NO := Lib.hid (fun (ho : okD d i = false) => (by rw [cntI_no ho, hn.out] : cntD d + cntI d (i + 1) = n))
          by_cases hok : r ≤ d ∧ d - r < 8
          · have ho : okD d i = true := by rw [OK.out, decide_eq_true hok.1, decide_eq_true hok.2]; rfl
            obtain ⟨hpl, hn63⟩ := PL.out ho
            have Y1 := Lib.hid (YES.out ho)
            have t2 : decide ((0 : Int) ≤ (d : Int) - (r : Int)) = true := by simp; omega
            have t2' : decide (r ≤ d) = true := by simp; omega
            have t3 : decide ((d : Int) - (r : Int) < 8) = true := by simp; omega
            have c1 := arr_cell (i := n) h1 hn63
            have ff := arr_free (i := n) h1
            generalize upF n n = y0 at c1
            have hval : (8 : Int) * (r : Int) + ((d : Int) - (r : Int)) = ((placeAt n : Nat) : Int) := by rw [hpl]; omega
            have PUT := Lib.hid (⟨heap_set h0 (by simp), by rw [← upF_step, ← hval]; exact arr_put _ h1, hb.setCell (by simp) _, by simp [World.setCell]; omega⟩ : (wr.setCell ⟨B + 1, n, none⟩ (.int .i64 (8 * (r : Int) + ((d : Int) - (r : Int))))).heap[B]? = some (.cells Y 25 (0, 0)) ∧ (wr.setCell ⟨B + 1, n, none⟩ (.int .i64 (8 * (r : Int) + ((d : Int) - (r : Int))))).heap[B + 1]? = some (arrO (upF (n + 1))) ∧ Below B w (wr.setCell ⟨B + 1, n, none⟩ (.int .i64 (8 * (r : Int) + ((d : Int) - (r : Int))))) ∧ B + 2 ≤ (wr.setCell ⟨B + 1, n, none⟩ (.int .i64 (8 * (r : Int) + ((d : Int) - (r : Int))))).heap.size)
            clear h0 h1 hb hpl hval ho
            by_cases hpar : d % 2 = 0
            · have hm1 : (d : Int).tmod 2 = 0 := by rw [Int.tmod_eq_emod_of_nonneg (by omega)]; omega
              have hm2 : (d : Int) % 2 = 0 := by omega
              have er : (7 : Int) - (i : Int) = (r : Int) := by rw [← hr]; unfold rowD; rw [if_pos hpar]; omega
              clear hr hpar hok
              go_wp2
              go_roundw
              case rel => exact ⟨i + 1, n + 1, by omega, by go_num, by go_num, by omega, Y1, PUT.out⟩
              case measure => simp [intOf]; omega
            · have hm1 : (d : Int).tmod 2 = 1 := by rw [Int.tmod_eq_emod_of_nonneg (by omega)]; omega
              have hm2 : (d : Int) % 2 = 1 := by omega
              have er : i = r := by rw [← hr]; unfold rowD; rw [if_neg hpar]
              subst er
              clear hr hpar hok
              go_wp2
              go_roundw
              case rel => exact ⟨i + 1, n + 1, by omega, by go_num, by go_num, by omega, Y1, PUT.out⟩
              case measure => simp [intOf]; omega
          · have ho : okD d i = false := by
              rw [OK.out]
              by_cases h : r ≤ d
              · rw [decide_eq_true h, decide_eq_false (fun h2 => hok ⟨h, h2⟩)]; rfl
              · rw [decide_eq_false h]; rfl
            have N1 := Lib.hid (NO.out ho)
            by_cases h3 : (d : Int) - (r : Int) < 0
            · have t2 : decide ((0 : Int) ≤ (d : Int) - (r : Int)) = false := by simp; omega
              have t2' : decide (r ≤ d) = false := by simp; omega
              clear ho
              by_cases hpar : d % 2 = 0
              · have hm1 : (d : Int).tmod 2 = 0 := by rw [Int.tmod_eq_emod_of_nonneg (by omega)]; omega
                have hm2 : (d : Int) % 2 = 0 := by omega
                have er : (7 : Int) - (i : Int) = (r : Int) := by rw [← hr]; unfold rowD; rw [if_pos hpar]; omega
                clear hr hpar hok h3
                go_wp2
                go_roundw
                case rel => exact ⟨i + 1, n, by omega, by go_num, rfl, by omega, N1, h0, h1, hb, hz⟩
                case measure => simp [intOf]; omega
              · have hm1 : (d : Int).tmod 2 = 1 := by rw [Int.tmod_eq_emod_of_nonneg (by omega)]; omega
                have hm2 : (d : Int) % 2 = 1 := by omega
                have er : i = r := by rw [← hr]; unfold rowD; rw [if_neg hpar]
                subst er
                clear hr hpar hok h3
                go_wp2
                go_roundw
                case rel => exact ⟨i + 1, n, by omega, by go_num, rfl, by omega, N1, h0, h1, hb, hz⟩
                case measure => simp [intOf]; omega
            · have t2 : decide ((0 : Int) ≤ (d : Int) - (r : Int)) = true := by simp; omega
              have t2' : decide (r ≤ d) = true := by simp; omega
              have t3 : decide ((d : Int) - (r : Int) < 8) = false := by simp; omega
              clear ho
              by_cases hpar : d % 2 = 0
              · have hm1 : (d : Int).tmod 2 = 0 := by rw [Int.tmod_eq_emod_of_nonneg (by omega)]; omega
                have hm2 : (d : Int) % 2 = 0 := by omega
                have er : (7 : Int) - (i : Int) = (r : Int) := by rw [← hr]; unfold rowD; rw [if_pos hpar]; omega
                clear hr hpar hok h3
                go_wp2
                go_roundw
                case rel => exact ⟨i + 1, n, by omega, by go_num, rfl, by omega, N1, h0, h1, hb, hz⟩
                case measure => simp [intOf]; omega
              · have hm1 : (d : Int).tmod 2 = 1 := by rw [Int.tmod_eq_emod_of_nonneg (by omega)]; omega
                have hm2 : (d : Int) % 2 = 1 := by omega
                have er : i = r := by rw [← hr]; unfold rowD; rw [if_neg hpar]
                subst er
                clear hr hpar hok h3
                go_wp2
                go_roundw
                case rel => exact ⟨i + 1, n, by omega, by go_num, rfl, by omega, N1, h0, h1, hb, hz⟩
                case measure => simp [intOf]; omega
        · obtain rfl : i = 8 := by omega
          go_wp2
          go_roundw
          case rel => exact ⟨d + 1, n, by omega, by go_num, rfl, Lib.hid hn.out, h0, h1, hb, hz⟩
          case measure => simp [intOf]; omega
    · obtain rfl : d = 15 := by omega
      have e64 : n0 = 64 := by rw [← hn0.out]; exact cnt_all
      subst e64
      obtain ⟨V, hV⟩ : ∃ V, arrA (upF 64) = V := ⟨_, rfl⟩
      have HV := Lib.hid hV
      have h2' : wr.heap[B + 1]? = some (.cells V 25 (0, 0)) := by rw [← hV]; exact h1
      have HSV : (Tryd.prog.info? 25).map (·.size) = some V.size := by rw [← hV]; exact arr_sized _
      have HOV : V.all (·.oneCell') = true := by rw [← hV]; exact arrA_one _
      have HYV : Y.size = V.size := by rw [← hV, HSY, arrA_size]
      clear hV h1
      go_wp2_with (first | (with_reducible refine wpList_load_row rfl 25 _ rfl (B + 1) rfl 25 V (0, 0) _ h2' Tryd.underlying25 rfl HSV ?_) | (with_reducible refine wp_store_arr rfl 25 _ _ rfl B V Y rfl rfl 25 h0 HSV HYV HOV ?_; intro w2 hh2 hg2))
      refine bodyPost_ret (results_cell_row rfl _ _ B 25 _ (0, 0) _ rfl hh2 Tryd.underlying25 rfl HSV) rfl ?_
      exact blk_at upF_all HV.out (by rw [HB.out]; exact hb.grown hg2 (by omega) (fun k hk => by injection hk with hk; omega))
/-! ### A block laid, and told -/
set_option maxRecDepth 100000 in
set_option maxHeartbeats 4000000 in
theorem raster_page (f : Nat → Int) (w : World) : Calls Tryd.prog 11 #[.agg (arrA f)] w (BlkGives (layF f) w) := by
  have HORD := Lib.hid order_page
  obtain ⟨B, hB⟩ : ∃ B, w.heap.size = B := ⟨_, rfl⟩
  obtain ⟨X, hX⟩ : ∃ X, arrA f = X := ⟨_, rfl⟩
  obtain ⟨Y, hY⟩ : ∃ Y, arrA (fun _ => 0) = Y := ⟨_, rfl⟩
  obtain ⟨Z, hZ⟩ : ∃ Z, arrA placeF = Z := ⟨_, rfl⟩
  have HSZ : (Tryd.prog.info? 25).map (·.size) = some Z.size := by rw [← hZ]; exact arr_sized _
  have HOZ : Z.all (·.oneCell') = true := by rw [← hZ]; exact arrA_one _
  have HZV := Lib.hid (show ∀ w, (zeroValue 25).run Tryd.prog w = .ok (.agg Y) w by rw [← hY]; exact arr_zero)
  have hz0 := HZV.out
  have HSY : Y.size = 64 := by rw [← hY]; exact arrA_size _
  have HYZ : Y.size = Z.size := by rw [← hY, ← hZ, arrA_size, arrA_size]
  obtain ⟨wA, hwA⟩ : ∃ wA, w.alloc (.cells X 25 (0, 0)) = wA := ⟨_, rfl⟩
  obtain ⟨wB, hwB⟩ : ∃ wB, wA.alloc (.cells Y 25 (0, 0)) = wB := ⟨_, rfl⟩
  have hzA : wA.heap.size = B + 1 := by rw [← hwA, ← hB]; simp
  have hzB : wB.heap.size = B + 2 := by rw [← hwB]; simp; omega
  have hA0 : wA.heap[B]? = some (arrO f) := by rw [← hwA, ← hB, ← hX]; exact heap_alloc_new w _
  have hB0 : wB.heap[B]? = some (arrO f) := by rw [← hwB]; exact heap_keep hA0
  have hB1 : wB.heap[B + 1]? = some (.cells Y 25 (0, 0)) := by rw [← hwB, ← hzA]; exact heap_alloc_new wA _
  have hbB : Below B w wB := by
    rw [← hwB, ← hwA, ← hB]
    exact ((Below.refl _ w).alloc (Nat.le_refl _) _).alloc (by simp) _
  rw [hX]
  have HZ := Lib.hid hZ
  have HY := Lib.hid hY
  have HWA := Lib.hid hwA
  have HWB := Lib.hid hwB
  have HB := Lib.hid hB
  clear hX hY hZ hA0 hwA hwB hB
  go_enter Tryd.func11, Tryd.ntmps11
  go_wp2_with fail
  rw [HWA.out, HB.out, HWB.out]
  refine (HORD.out _).mono ?_
  rintro e w1 ⟨rfl, hb1⟩
  rw [HZ.out]
  obtain ⟨Q, hQ⟩ : ∃ Q, w1.heap.size = Q := ⟨_, rfl⟩
  have hQB : B + 2 ≤ Q := by have := hb1.size; omega
  obtain ⟨wC, hwC⟩ : ∃ wC, w1.alloc (.cells Y 25 (0, 0)) = wC := ⟨_, rfl⟩
  have hzC : wC.heap.size = Q + 1 := by rw [← hwC]; simp; omega
  have h10 : w1.heap[B]? = some (arrO f) := (hb1.block B (by omega)).trans hB0
  have h11 : w1.heap[B + 1]? = some (.cells Y 25 (0, 0)) := (hb1.block (B + 1) (by omega)).trans hB1
  have hbC : Below B w wC := by rw [← hwC]; exact (hbB.trans (hb1.mono (by omega))).alloc (by omega) _
  have hC0 : wC.heap[B]? = some (arrO f) := by rw [← hwC]; exact heap_keep h10
  have hC1 : wC.heap[B + 1]? = some (.cells Y 25 (0, 0)) := by rw [← hwC]; exact heap_keep h11
  have hC2 : wC.heap[Q]? = some (.cells Y 25 (0, 0)) := by rw [← hwC, ← hQ]; exact heap_alloc_new w1 _
  have HWC := Lib.hid hwC
  have HQ := Lib.hid hQ
  have K0 : ∀ (x : World), wC.grownBy x (some Q) → x.heap[B]? = some (arrO f) ∧ x.heap[B + 1]? = some (.cells Y 25 (0, 0)) ∧ Below B w x ∧ Q + 1 ≤ x.heap.size := fun x hg =>
    ⟨(hg.block B (by omega) (by intro e; injection e with e; omega)).trans hC0, (hg.block (B + 1) (by omega) (by intro e; injection e with e; omega)).trans hC1, hbC.grown hg (by omega) (fun k hk => by injection hk with hk; omega), by have := hg.size; omega⟩
  have KD := Lib.hid K0
  have HQB := Lib.hid hQB
  have HH := Lib.hid hC2
  clear hwC hQ hzC h10 h11 hbC hC0 hC1 hC2 K0 hb1 hB0 hB1 hbB hzA hzB hQB
  go_wp2_with (rw [HWC.out, HQ.out]; with_reducible refine wp_store_arr rfl 25 _ _ rfl Q Z Y rfl rfl 25 HH.out HSZ HYZ HOZ ?_; intro w2 hh2 hg2)
  obtain ⟨h20, h21, hb2, hz2⟩ := KD.out _ hg2
  have hh2' : w2.heap[Q]? = some (arrO placeF) := by unfold arrO; rw [HZ.out]; exact hh2
  have hQB := HQB.out
  obtain ⟨R, hR⟩ : ∃ R, w2.heap.size = R := ⟨_, rfl⟩
  have hRQ : Q < R := by omega
  obtain ⟨wD, hwD⟩ : ∃ wD, w2.alloc (.cells Y 25 (0, 0)) = wD := ⟨_, rfl⟩
  have hD0 : wD.heap[B]? = some (arrO f) := by rw [← hwD]; exact heap_keep h20
  have hD1 : wD.heap[B + 1]? = some (.cells Y 25 (0, 0)) := by rw [← hwD]; exact heap_keep h21
  have hD2 : wD.heap[Q]? = some (arrO placeF) := by rw [← hwD]; exact heap_keep hh2'
  have hD3 : wD.heap[R]? = some (arrO (layS f 0)) := by
    rw [← hwD, ← hR]
    refine (heap_alloc_new w2 _).trans ?_
    rw [← HY.out]
    rfl
  have hbD : Below B w wD := by rw [← hwD]; exact hb2.alloc (by omega) _
  have hzD : R + 1 ≤ wD.heap.size := by rw [← hwD]; simp; omega
  rw [hwD, hR]
  have HRQ := Lib.hid (show B + 2 ≤ Q ∧ Q < R from ⟨hQB, hRQ⟩)
  clear hh2 hg2 h20 h21 hb2 hz2 hh2' hwD hR hRQ hQB
  go_loopw [5] (fun z wr => ∃ i : Nat, i ≤ 64 ∧ z = .int .i64 i ∧ wr.heap[B]? = some (arrO f) ∧ wr.heap[B + 1]? = some (.cells Y 25 (0, 0)) ∧ wr.heap[Q]? = some (arrO placeF) ∧ wr.heap[R]? = some (arrO (layS f i)) ∧ Below B w wr ∧ R + 1 ≤ wr.heap.size) (fun z _ => 64 - (intOf z).toNat)
  case atStart => exact ⟨0, by omega, rfl, hD0, hD1, hD2, hD3, hbD, hzD⟩
  case round =>
    clear hD0 hD1 hD2 hD3 hbD hzD
    obtain ⟨i, hi64, rfl, h0, h1, h2, h3, hb, hz⟩ := hrel
    obtain ⟨hQB, hRQ⟩ := HRQ.out
    by_cases hlt : i < 64
    · have t0 : decide ((i : Int) < 64) = true := by simp; omega
      have hpl := (place_num i hlt).1
      have hpf : placeF i = ((placeAt i : Nat) : Int) := rfl
      have ST := Lib.hid (show layS f (i + 1) = setF (layS f i) (placeAt i) (f i) from rfl)
      have c2 := arr_cell h2 hlt
      rw [hpf] at c2
      obtain ⟨p, hpp⟩ : ∃ p, placeAt i = p := ⟨_, rfl⟩
      rw [hpp] at c2 hpl ST
      have c0 := arr_cell h0 hlt
      have c3 := arr_cell h3 hpl
      have ff := arr_free (i := p) h3
      generalize f i = y at c0 ST
      generalize layS f i p = y2 at c3
      have PUT := Lib.hid (fun (x : World) (hx : x.heap = wr.heap) (hb' : Below B w x) => (⟨heap_set (by rw [hx]; exact h0) (by show B ≠ R; omega), heap_set (by rw [hx]; exact h1) (by show B + 1 ≠ R; omega), heap_set (by rw [hx]; exact h2) (by show Q ≠ R; omega), by rw [ST.out]; exact arr_put y (by rw [hx]; exact h3), hb'.setCell (by show B ≤ R; omega) _, by simp [World.setCell]; rw [hx]; omega⟩ : (x.setCell ⟨R, p, none⟩ (.int .i64 y)).heap[B]? = some (arrO f) ∧ (x.setCell ⟨R, p, none⟩ (.int .i64 y)).heap[B + 1]? = some (.cells Y 25 (0, 0)) ∧ (x.setCell ⟨R, p, none⟩ (.int .i64 y)).heap[Q]? = some (arrO placeF) ∧ (x.setCell ⟨R, p, none⟩ (.int .i64 y)).heap[R]? = some (arrO (layS f (i + 1))) ∧ Below B w (x.setCell ⟨R, p, none⟩ (.int .i64 y)) ∧ R + 1 ≤ (x.setCell ⟨R, p, none⟩ (.int .i64 y)).heap.size))
      have P1 := Lib.hid (PUT.out wr.drew rfl hb.drew)
      clear h0 h1 h2 h3 hb hpf hpp PUT
      go_wp2
      go_region
      go_wp2
      go_roundw
      case rel => exact ⟨i + 1, by omega, by go_num, P1.out⟩
      case measure => simp [intOf]; omega
    · obtain rfl : i = 64 := by omega
      have t0 : decide ((64 : Int) < 64) = false := by simp
      obtain ⟨V, hV⟩ : ∃ V, arrA (layS f 64) = V := ⟨_, rfl⟩
      have HV := Lib.hid hV
      have h2' : wr.heap[R]? = some (.cells V 25 (0, 0)) := by rw [← hV]; exact h3
      have HSV : (Tryd.prog.info? 25).map (·.size) = some V.size := by rw [← hV]; exact arr_sized _
      have HOV : V.all (·.oneCell') = true := by rw [← hV]; exact arrA_one _
      have HYV : Y.size = V.size := by rw [← hV, HSY, arrA_size]
      clear hV h2 h0 h3
      go_wp2_with (first | (with_reducible refine wpList_load_row rfl 25 _ rfl R rfl 25 V (0, 0) _ h2' Tryd.underlying25 rfl HSV ?_) | (with_reducible refine wp_store_arr rfl 25 _ _ rfl (B + 1) V Y rfl rfl 25 h1 HSV HYV HOV ?_; intro w2 hh2 hg2))
      refine bodyPost_ret (results_cell_row rfl _ _ (B + 1) 25 _ (0, 0) _ rfl hh2 Tryd.underlying25 rfl HSV) rfl ?_
      exact blk_at (layS_all f) HV.out (by rw [HB.out]; exact hb.grown hg2 (by omega) (fun k hk => by injection hk with hk; omega))
set_option maxRecDepth 100000 in
set_option maxHeartbeats 4000000 in
theorem told_page (f : Nat → Int) (w : World) : Calls Tryd.prog 13 #[.agg (arrA f)] w (BlkGives (tellF f) w) := by
  have HORD := Lib.hid order_page
  obtain ⟨B, hB⟩ : ∃ B, w.heap.size = B := ⟨_, rfl⟩
  obtain ⟨X, hX⟩ : ∃ X, arrA f = X := ⟨_, rfl⟩
  obtain ⟨Y, hY⟩ : ∃ Y, arrA (fun _ => 0) = Y := ⟨_, rfl⟩
  obtain ⟨Z, hZ⟩ : ∃ Z, arrA placeF = Z := ⟨_, rfl⟩
  have HSZ : (Tryd.prog.info? 25).map (·.size) = some Z.size := by rw [← hZ]; exact arr_sized _
  have HOZ : Z.all (·.oneCell') = true := by rw [← hZ]; exact arrA_one _
  have HZV := Lib.hid (show ∀ w, (zeroValue 25).run Tryd.prog w = .ok (.agg Y) w by rw [← hY]; exact arr_zero)
  have hz0 := HZV.out
  have HSY : Y.size = 64 := by rw [← hY]; exact arrA_size _
  have HYZ : Y.size = Z.size := by rw [← hY, ← hZ, arrA_size, arrA_size]
  obtain ⟨wA, hwA⟩ : ∃ wA, w.alloc (.cells X 25 (0, 0)) = wA := ⟨_, rfl⟩
  obtain ⟨wB, hwB⟩ : ∃ wB, wA.alloc (.cells Y 25 (0, 0)) = wB := ⟨_, rfl⟩
  have hzA : wA.heap.size = B + 1 := by rw [← hwA, ← hB]; simp
  have hzB : wB.heap.size = B + 2 := by rw [← hwB]; simp; omega
  have hA0 : wA.heap[B]? = some (arrO f) := by rw [← hwA, ← hB, ← hX]; exact heap_alloc_new w _
  have hB0 : wB.heap[B]? = some (arrO f) := by rw [← hwB]; exact heap_keep hA0
  have hB1 : wB.heap[B + 1]? = some (.cells Y 25 (0, 0)) := by rw [← hwB, ← hzA]; exact heap_alloc_new wA _
  have hbB : Below B w wB := by
    rw [← hwB, ← hwA, ← hB]
    exact ((Below.refl _ w).alloc (Nat.le_refl _) _).alloc (by simp) _
  rw [hX]
  have HZ := Lib.hid hZ
  have HY := Lib.hid hY
  have HWA := Lib.hid hwA
  have HWB := Lib.hid hwB
  have HB := Lib.hid hB
  clear hX hY hZ hA0 hwA hwB hB
  go_enter Tryd.func13, Tryd.ntmps13
  go_wp2_with fail
  rw [HWA.out, HB.out, HWB.out]
  refine (HORD.out _).mono ?_
  rintro e w1 ⟨rfl, hb1⟩
  rw [HZ.out]
  obtain ⟨Q, hQ⟩ : ∃ Q, w1.heap.size = Q := ⟨_, rfl⟩
  have hQB : B + 2 ≤ Q := by have := hb1.size; omega
  obtain ⟨wC, hwC⟩ : ∃ wC, w1.alloc (.cells Y 25 (0, 0)) = wC := ⟨_, rfl⟩
  have hzC : wC.heap.size = Q + 1 := by rw [← hwC]; simp; omega
  have h10 : w1.heap[B]? = some (arrO f) := (hb1.block B (by omega)).trans hB0
  have h11 : w1.heap[B + 1]? = some (.cells Y 25 (0, 0)) := (hb1.block (B + 1) (by omega)).trans hB1
  have hbC : Below B w wC := by rw [← hwC]; exact (hbB.trans (hb1.mono (by omega))).alloc (by omega) _
  have hC0 : wC.heap[B]? = some (arrO f) := by rw [← hwC]; exact heap_keep h10
  have hC1 : wC.heap[B + 1]? = some (.cells Y 25 (0, 0)) := by rw [← hwC]; exact heap_keep h11
  have hC2 : wC.heap[Q]? = some (.cells Y 25 (0, 0)) := by rw [← hwC, ← hQ]; exact heap_alloc_new w1 _
  have HWC := Lib.hid hwC
  have HQ := Lib.hid hQ
  have K0 : ∀ (x : World), wC.grownBy x (some Q) → x.heap[B]? = some (arrO f) ∧ x.heap[B + 1]? = some (.cells Y 25 (0, 0)) ∧ Below B w x ∧ Q + 1 ≤ x.heap.size := fun x hg =>
    ⟨(hg.block B (by omega) (by intro e; injection e with e; omega)).trans hC0, (hg.block (B + 1) (by omega) (by intro e; injection e with e; omega)).trans hC1, hbC.grown hg (by omega) (fun k hk => by injection hk with hk; omega), by have := hg.size; omega⟩
  have KD := Lib.hid K0
  have HQB := Lib.hid hQB
  have HH := Lib.hid hC2
  clear hwC hQ hzC h10 h11 hbC hC0 hC1 hC2 K0 hb1 hB0 hB1 hbB hzA hzB hQB
  go_wp2_with (rw [HWC.out, HQ.out]; with_reducible refine wp_store_arr rfl 25 _ _ rfl Q Z Y rfl rfl 25 HH.out HSZ HYZ HOZ ?_; intro w2 hh2 hg2)
  obtain ⟨h20, h21, hb2, hz2⟩ := KD.out _ hg2
  have hh2' : w2.heap[Q]? = some (arrO placeF) := by unfold arrO; rw [HZ.out]; exact hh2
  have hQB := HQB.out
  obtain ⟨R, hR⟩ : ∃ R, w2.heap.size = R := ⟨_, rfl⟩
  have hRQ : Q < R := by omega
  obtain ⟨wD, hwD⟩ : ∃ wD, w2.alloc (.cells Y 25 (0, 0)) = wD := ⟨_, rfl⟩
  have hD0 : wD.heap[B]? = some (arrO f) := by rw [← hwD]; exact heap_keep h20
  have hD1 : wD.heap[B + 1]? = some (.cells Y 25 (0, 0)) := by rw [← hwD]; exact heap_keep h21
  have hD2 : wD.heap[Q]? = some (arrO placeF) := by rw [← hwD]; exact heap_keep hh2'
  have hD3 : wD.heap[R]? = some (arrO (tellS f 0)) := by
    rw [← hwD, ← hR]
    refine (heap_alloc_new w2 _).trans ?_
    rw [← HY.out]
    rfl
  have hbD : Below B w wD := by rw [← hwD]; exact hb2.alloc (by omega) _
  have hzD : R + 1 ≤ wD.heap.size := by rw [← hwD]; simp; omega
  rw [hwD, hR]
  have HRQ := Lib.hid (show B + 2 ≤ Q ∧ Q < R from ⟨hQB, hRQ⟩)
  clear hh2 hg2 h20 h21 hb2 hz2 hh2' hwD hR hRQ hQB
  go_loopw [5] (fun z wr => ∃ i : Nat, i ≤ 64 ∧ z = .int .i64 i ∧ wr.heap[B]? = some (arrO f) ∧ wr.heap[B + 1]? = some (.cells Y 25 (0, 0)) ∧ wr.heap[Q]? = some (arrO placeF) ∧ wr.heap[R]? = some (arrO (tellS f i)) ∧ Below B w wr ∧ R + 1 ≤ wr.heap.size) (fun z _ => 64 - (intOf z).toNat)
  case atStart => exact ⟨0, by omega, rfl, hD0, hD1, hD2, hD3, hbD, hzD⟩
  case round =>
    clear hD0 hD1 hD2 hD3 hbD hzD
    obtain ⟨i, hi64, rfl, h0, h1, h2, h3, hb, hz⟩ := hrel
    obtain ⟨hQB, hRQ⟩ := HRQ.out
    by_cases hlt : i < 64
    · have t0 : decide ((i : Int) < 64) = true := by simp; omega
      have hpl := (place_num i hlt).1
      have hpf : placeF i = ((placeAt i : Nat) : Int) := rfl
      have ST := Lib.hid (show tellS f (i + 1) = setF (tellS f i) i (f (placeAt i)) from rfl)
      have c2 := arr_cell h2 hlt
      rw [hpf] at c2
      obtain ⟨p, hpp⟩ : ∃ p, placeAt i = p := ⟨_, rfl⟩
      rw [hpp] at c2 hpl ST
      have c0 := arr_cell h0 hpl
      have c3 := arr_cell h3 hlt
      have ff := arr_free (i := i) h3
      generalize f p = y at c0 ST
      generalize tellS f i i = y2 at c3
      have PUT := Lib.hid (fun (x : World) (hx : x.heap = wr.heap) (hb' : Below B w x) => (⟨heap_set (by rw [hx]; exact h0) (by show B ≠ R; omega), heap_set (by rw [hx]; exact h1) (by show B + 1 ≠ R; omega), heap_set (by rw [hx]; exact h2) (by show Q ≠ R; omega), by rw [ST.out]; exact arr_put y (by rw [hx]; exact h3), hb'.setCell (by show B ≤ R; omega) _, by simp [World.setCell]; rw [hx]; omega⟩ : (x.setCell ⟨R, i, none⟩ (.int .i64 y)).heap[B]? = some (arrO f) ∧ (x.setCell ⟨R, i, none⟩ (.int .i64 y)).heap[B + 1]? = some (.cells Y 25 (0, 0)) ∧ (x.setCell ⟨R, i, none⟩ (.int .i64 y)).heap[Q]? = some (arrO placeF) ∧ (x.setCell ⟨R, i, none⟩ (.int .i64 y)).heap[R]? = some (arrO (tellS f (i + 1))) ∧ Below B w (x.setCell ⟨R, i, none⟩ (.int .i64 y)) ∧ R + 1 ≤ (x.setCell ⟨R, i, none⟩ (.int .i64 y)).heap.size))
      have P1 := Lib.hid (PUT.out wr rfl hb)
      clear h0 h1 h2 h3 hb hpf hpp PUT
      go_wp2
      go_roundw
      case rel => exact ⟨i + 1, by omega, by go_num, P1.out⟩
      case measure => simp [intOf]; omega
    · obtain rfl : i = 64 := by omega
      have t0 : decide ((64 : Int) < 64) = false := by simp
      obtain ⟨V, hV⟩ : ∃ V, arrA (tellS f 64) = V := ⟨_, rfl⟩
      have HV := Lib.hid hV
      have h2' : wr.heap[R]? = some (.cells V 25 (0, 0)) := by rw [← hV]; exact h3
      have HSV : (Tryd.prog.info? 25).map (·.size) = some V.size := by rw [← hV]; exact arr_sized _
      have HOV : V.all (·.oneCell') = true := by rw [← hV]; exact arrA_one _
      have HYV : Y.size = V.size := by rw [← hV, HSY, arrA_size]
      clear hV h2 h0 h3
      go_wp2_with (first | (with_reducible refine wpList_load_row rfl 25 _ rfl R rfl 25 V (0, 0) _ h2' Tryd.underlying25 rfl HSV ?_) | (with_reducible refine wp_store_arr rfl 25 _ _ rfl (B + 1) V Y rfl rfl 25 h1 HSV HYV HOV ?_; intro w2 hh2 hg2))
      refine bodyPost_ret (results_cell_row rfl _ _ (B + 1) 25 _ (0, 0) _ rfl hh2 Tryd.underlying25 rfl HSV) rfl ?_
      exact blk_at (tellS_all f) HV.out (by rw [HB.out]; exact hb.grown hg2 (by omega) (fun k hk => by injection hk with hk; omega))
end Go.Proofs.YtefoiijpgpjooaaDoor
