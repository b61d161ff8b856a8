/- Package scan: which place is told as which number, and a block told and laid, by its code. Condition: the variable holds its table. -/
import Derived.Test.YtefoiijpgpjooaaDoorArr
import Derived.Test.YtefoiijpgpjooaaDoorLay
import Derived.WalkMore
import Derived.IntWalk
namespace Go.Proofs.YtefoiijpgpjooaaDoor
open Go.RowKit Go.Lib

/-- The places, as they are told. -/
def placeZ : List Nat := [0, 1, 8, 16, 9, 2, 3, 10, 17, 24, 32, 25, 18, 11, 4, 5, 12, 19, 26, 33, 40, 48, 41, 34, 27, 20, 13, 6, 7, 14, 21, 28, 35, 42, 49, 56, 57, 50, 43, 36, 29, 22, 15, 23, 30, 37, 44, 51, 58, 59, 52, 45, 38, 31, 39, 46, 53, 60, 61, 54, 47, 55, 62, 63]
def placeAt (i : Nat) : Nat := placeZ[i]?.getD 0
/-- As which number a place is told. -/
def numAt (p : Nat) : Nat := placeZ.idxOf p
theorem place_num : ∀ i, i < 64 → placeAt i < 64 ∧ numAt (placeAt i) = i := by decide +kernel
theorem num_place : ∀ p, p < 64 → numAt p < 64 ∧ placeAt (numAt p) = p := by decide +kernel
def placeF (i : Nat) : Int := (placeAt i : Nat)
/-- What At and Of give. -/
def atV (k : Int) : Int × Bool := if 0 ≤ k ∧ k < 64 then ((placeAt k.toNat : Nat), true) else (0, false)
def ofV (p : Int) : Int × Bool := if 0 ≤ p ∧ p < 64 then ((numAt p.toNat : Nat), true) else (0, false)
theorem atV_in {k : Nat} (h : k < 64) : atV (k : Int) = (((placeAt k : Nat) : Int), true) := by
  unfold atV
  rw [if_pos (by omega), Int.toNat_natCast]
theorem ofV_in {p : Nat} (h : p < 64) : ofV (p : Int) = (((numAt p : Nat) : Int), true) := by
  unfold ofV
  rw [if_pos (by omega), Int.toNat_natCast]
theorem atV_out {k : Int} (h : k < 0 ∨ 63 < k) : atV k = (0, false) := by
  unfold atV
  rw [if_neg (by omega)]
theorem ofV_out {p : Int} (h : p < 0 ∨ 63 < p) : ofV p = (0, false) := by
  unfold ofV
  rw [if_neg (by omega)]
/-- A block laid, and told. -/
def layF (f : Nat → Int) (p : Nat) : Int := f (numAt p)
def tellF (f : Nat → Int) (k : Nat) : Int := f (placeAt k)
theorem tell_lay (f : Nat → Int) : ∀ k, k < 64 → tellF (layF f) k = f k := by
  intro k hk
  show f (numAt (placeAt k)) = f k
  rw [(place_num k hk).2]
theorem lay_tell (f : Nat → Int) : ∀ p, p < 64 → layF (tellF f) p = f p := by
  intro p hp
  show f (placeAt (numAt p)) = f p
  rw [(num_place p hp).2]
/-- A block laid number by number. -/
def layS (f : Nat → Int) : Nat → (Nat → Int)
  | 0 => fun _ => 0
  | k + 1 => setF (layS f k) (placeAt k) (f k)
theorem layS_at (f : Nat → Int) : ∀ k, k ≤ 64 → ∀ p, p < 64 → layS f k p = if numAt p < k then f (numAt p) else 0
  | 0, _, p, _ => rfl
  | k + 1, hk, p, hp => by
    unfold layS setF
    have ih := layS_at f k (by omega) p hp
    have h1 := place_num k (by omega)
    have h2 := num_place p hp
    by_cases e : p = placeAt k
    · subst e
      rw [if_pos rfl, h1.2, if_pos (by omega)]
    · rw [if_neg e, ih]
      have hne : numAt p ≠ k := fun h => e (by rw [← h]; exact h2.2.symm)
      by_cases hlt : numAt p < k
      · rw [if_pos hlt, if_pos (by omega)]
      · rw [if_neg hlt, if_neg (by omega)]
theorem layS_all (f : Nat → Int) : ∀ p, p < 64 → layS f 64 p = layF f p := by
  intro p hp
  rw [layS_at f 64 (Nat.le_refl _) p hp, if_pos (num_place p hp).1]
  rfl
/-- A block told number by number. -/
def tellS (f : Nat → Int) : Nat → (Nat → Int)
  | 0 => fun _ => 0
  | k + 1 => setF (tellS f k) k (f (placeAt k))
theorem tellS_at (f : Nat → Int) : ∀ k p, tellS f k p = if p < k then f (placeAt p) else 0
  | 0, p => rfl
  | k + 1, p => by
    unfold tellS setF
    by_cases e : p = k
    · subst e
      rw [if_pos rfl, if_pos (by omega)]
    · rw [if_neg e, tellS_at f k p]
      by_cases hlt : p < k
      · rw [if_pos hlt, if_pos (by omega)]
      · rw [if_neg hlt, if_neg (by omega)]
theorem tellS_all (f : Nat → Int) : ∀ p, p < 64 → tellS f 64 p = tellF f p := by
  intro p hp
  rw [tellS_at, if_pos hp]
  rfl

/-! ### The table -/
/-- The variable holds its table. -/
def HasScan (w : World) : Prop := ∀ i, i < 64 → w.cell? ⟨0, i, none⟩ = some (.int .i64 (placeAt i : Nat))
theorem HasScan.lt {w : World} (h : HasScan w) : 0 < w.heap.size := World.block_lt_of_cell? w ⟨0, 0, none⟩ (h 0 (by decide))
theorem HasScan.below {w w' : World} (h : HasScan w) (hb : Below w.heap.size w w') : HasScan w' := fun i hi => (hb.cell (p := ⟨0, i, none⟩) h.lt).trans (h i hi)
theorem arr_agg : ∀ w, (isAgg 25).run Tryd.prog w = .ok true w := fun _ => by kernel_rfl
theorem arr_cells : ∀ w, (Go.sizeOf 25).run Tryd.prog w = .ok 64 w := fun _ => by kernel_rfl
theorem load_places (w : World) (hp : HasScan w) : (loadVar 25 ⟨0, 0, none⟩).run Tryd.prog w = .ok (.agg (arrA placeF)) w := by
  have hl := run_loadCells_list (P := Tryd.prog) w ⟨0, 0, none⟩ (arrL placeF) (fun j v hj => by
    have hj64 : j < 64 := by
      have := (List.getElem?_eq_some_iff.1 hj).1
      rwa [arrL_len] at this
    rw [Addr.add_lit, Nat.zero_add, hp j hj64]
    rw [arrL_at _ hj64] at hj
    exact hj)
  rw [arrL_len] at hl
  unfold loadVar
  simp only [Sem.run_bind, arr_agg, Result.andThen_ok, if_true, arr_cells, hl, Sem.run_pure]
  rfl
/-- The loop copies the table. -/
theorem wpList_places {ops : Array Oper} {rest : List Oper} {a : Act} {w : World} {Q : Exit → Act → World → Prop} {pos : String} {ty : TypeId} {after : Array Edge} {d : Option Tmp} (hp : HasScan w) (h : wpList Tryd.prog ops Q rest (a.put d (.agg (arrA placeF))) w) :
    wpList Tryd.prog ops Q ({ dst := d, op := Op.load 25 (Operand.global 0), type := ty, pos := pos, after := after, guard := none } :: rest) a w :=
  wpList_plain rfl fun _ hK => by
    unfold Oper.wp
    rw [exec_load (ev := a.eval) (ty := 25) (x := .global 0) (ad := ⟨0, 0, none⟩) rfl rfl (load_places w hp)]
    exact hK _ _ h

/-! ### At, Of -/
set_option maxHeartbeats 1000000 in
theorem sat_code (k : Int) (w : World) (hp : HasScan w) : Calls Tryd.prog 6 #[.int .i64 k] w fun e w' => e = .returned (.tuple #[.int .i64 (atV k).1, .bool (atV k).2]) ∧ w = w' := by
  by_cases h0 : k < 0
  · have t0 : decide (k < 0) = true := by simpa using h0
    rw [atV_out (.inl h0)]
    go_enter Tryd.func6, Tryd.ntmps6
    go_wp2
    go_ret2
    exact ⟨rfl, rfl⟩
  have t0 : decide (k < 0) = false := by simpa using h0
  by_cases h1 : 63 < k
  · have t1 : decide (64 ≤ k) = true := by simp; omega
    rw [atV_out (.inr h1)]
    go_enter Tryd.func6, Tryd.ntmps6
    go_wp2
    go_ret2
    exact ⟨rfl, rfl⟩
  obtain ⟨i, rfl⟩ : ∃ i : Nat, k = (i : Int) := ⟨k.toNat, by omega⟩
  have t1 : decide (64 ≤ (i : Int)) = false := by simp; omega
  have t2 : decide (64 ≤ i) = false := by simp; omega
  have hi : i < 64 := by omega
  have c0 := hp i hi
  rw [atV_in hi]
  generalize placeAt i = y at c0 ⊢
  clear h0 h1
  go_enter Tryd.func6, Tryd.ntmps6
  go_wp2
  go_ret2
  exact ⟨rfl, rfl⟩
theorem of_ret {p : Int} {k : Nat} {v : Value} (h : ofV p = (((k : Nat) : Int), true)) (hv : v = .int .i64 (k : Int)) : Ending.returned (.tuple #[v, .bool true]) = .returned (.tuple #[.int .i64 (ofV p).1, .bool (ofV p).2]) := by rw [h, hv]
theorem of_none {p : Int} (h : ofV p = (0, false)) : Ending.returned (.tuple #[.int .i64 0, .bool false]) = .returned (.tuple #[.int .i64 (ofV p).1, .bool (ofV p).2]) := by rw [h]
set_option maxRecDepth 100000 in
set_option maxHeartbeats 1000000 in
theorem sof_code (p : Int) (w : World) (hp : HasScan w) : Calls Tryd.prog 7 #[.int .i64 p] w fun e w' => e = .returned (.tuple #[.int .i64 (ofV p).1, .bool (ofV p).2]) ∧ w = w' := by
  have hidx := fun (w : World) (i : Nat) (h : i < 64) => arr_index placeF h w
  obtain ⟨Z, hZ⟩ : ∃ Z, arrA placeF = Z := ⟨_, rfl⟩
  rw [hZ] at hidx
  have HIX := Lib.hid hidx
  have HZ := Lib.hid hZ
  clear hZ hidx
  go_enter Tryd.func7, Tryd.ntmps7
  go_wp2_with (with_reducible refine wpList_places hp ?_; rw [HZ.out])
  go_loop [7] (fun v => ∃ i : Nat, i ≤ 64 ∧ v = .int .i64 i ∧ Hid (∀ j, j < i → ((placeAt j : Nat) : Int) ≠ p)) (fun v => 64 - (intOf v).toNat)
  case atStart => exact ⟨0, by omega, rfl, Lib.hid (fun j h => absurd h (Nat.not_lt_zero j))⟩
  case round =>
    obtain ⟨i, hi64, rfl, hno⟩ := hrel
    by_cases hlt : i < 64
    · have hix := fun w => HIX.out w i hlt
      have hpf : placeF i = ((placeAt i : Nat) : Int) := rfl
      rw [hpf] at hix
      by_cases he : ((placeAt i : Nat) : Int) = p
      · have F := Lib.hid (show ofV p = (((i : Nat) : Int), true) by rw [← he, ofV_in (place_num i hlt).1, (place_num i hlt).2])
        have t1 : (((placeAt i : Nat) : Int) == p) = true := by simpa using he
        generalize ((placeAt i : Nat) : Int) = y at hix t1
        clear he hno hpf
        go_wp2
        go_ret2
        exact ⟨of_ret F.out rfl, rfl⟩
      · have N := Lib.hid (show ∀ j, j < i + 1 → ((placeAt j : Nat) : Int) ≠ p from fun j hj => by
          by_cases e : j = i
          · subst e; exact he
          · exact hno.out j (by omega))
        have t1 : (((placeAt i : Nat) : Int) == p) = false := by simpa using he
        generalize ((placeAt i : Nat) : Int) = y at hix t1
        clear he hno hpf
        go_wp2
        go_round
        case rel => exact ⟨i + 1, by omega, by go_num, N⟩
        case measure => simp [intOf]; omega
    · obtain rfl : i = 64 := by omega
      have F := Lib.hid (show ofV p = (0, false) from ofV_out (by
        by_cases h : p < 0 ∨ 63 < p
        · exact h
        · exfalso
          have := num_place p.toNat (by omega)
          refine hno.out (numAt p.toNat) this.1 ?_
          rw [this.2]
          omega))
      clear hno
      go_wp2
      go_ret2
      exact ⟨of_none F.out, rfl⟩

/-! ### Raster, Told -/
/-- What a call that answers a block gives. -/
def BlkGives (g : Nat → Int) (w : World) (e : Ending) (w' : World) : Prop := e = .returned (.agg (arrA g)) ∧ Below w.heap.size w w'
theorem blk_at {g h : Nat → Int} {w w' : World} {Z : Array Value} (hg : ∀ i, i < 64 → h i = g i) (hZ : arrA h = Z) (hb : Below w.heap.size w w') : BlkGives g w (.returned (.agg Z)) w' := by
  unfold BlkGives
  rw [← hZ, arrA_congr hg]
  exact ⟨rfl, hb⟩
set_option maxRecDepth 100000 in
set_option maxHeartbeats 2000000 in
theorem raster_code (f : Nat → Int) (w : World) (hp : HasScan w) : Calls Tryd.prog 10 #[.agg (arrA f)] w (BlkGives (layF f) w) := by
  obtain ⟨B, hB⟩ : ∃ B, w.heap.size = B := ⟨_, rfl⟩
  obtain ⟨X, hX⟩ : ∃ X, arrA f = X := ⟨_, rfl⟩
  obtain ⟨Y, hY⟩ : ∃ Y, arrA (fun _ => 0) = Y := ⟨_, rfl⟩
  obtain ⟨Z, hZ⟩ : ∃ Z, arrA placeF = Z := ⟨_, rfl⟩
  have hidx := fun (w : World) (i : Nat) (h : i < 64) => arr_index placeF h w
  have hz0 : ∀ w, (zeroValue 25).run Tryd.prog w = .ok (.agg Y) w := by rw [← hY]; exact arr_zero
  have HSY : Y.size = 64 := by rw [← hY]; exact arrA_size _
  obtain ⟨wA, hwA⟩ : ∃ wA, w.alloc (.cells X 25 (0, 0)) = wA := ⟨_, rfl⟩
  obtain ⟨wB, hwB⟩ : ∃ wB, wA.alloc (.cells Y 25 (0, 0)) = wB := ⟨_, rfl⟩
  obtain ⟨wC, hwC⟩ : ∃ wC, wB.alloc (.cells Y 25 (0, 0)) = wC := ⟨_, rfl⟩
  have hzA : wA.heap.size = B + 1 := by rw [← hwA, ← hB]; simp
  have hzB : wB.heap.size = B + 2 := by rw [← hwB]; simp; omega
  have hzC : wC.heap.size = B + 3 := by rw [← hwC]; simp; omega
  have hA0 : wA.heap[B]? = some (arrO f) := by rw [← hwA, ← hB, ← hX]; exact heap_alloc_new w _
  have hB0 : wB.heap[B]? = some (arrO f) := by rw [← hwB]; exact heap_keep hA0
  have hB1 : wB.heap[B + 1]? = some (.cells Y 25 (0, 0)) := by rw [← hwB, ← hzA]; exact heap_alloc_new wA _
  have hC0 : wC.heap[B]? = some (arrO f) := by rw [← hwC]; exact heap_keep hB0
  have hC1 : wC.heap[B + 1]? = some (.cells Y 25 (0, 0)) := by rw [← hwC]; exact heap_keep hB1
  have hC2 : wC.heap[B + 2]? = some (arrO (layS f 0)) := by
    rw [← hwC, ← hzB]
    refine (heap_alloc_new wB _).trans ?_
    rw [← hY]
    rfl
  have hbC : Below B w wC := by
    rw [← hwC, ← hwB, ← hwA, ← hB]
    exact (((Below.refl _ w).alloc (Nat.le_refl _) _).alloc (by simp) _).alloc (by simp; omega) _
  have hpC : HasScan wC := hp.below (by rw [hB]; exact hbC)
  rw [hX]
  rw [hZ] at hidx
  have HIX := Lib.hid hidx
  have HZ := Lib.hid hZ
  have HY := Lib.hid hY
  have HWA := Lib.hid hwA
  have HWB := Lib.hid hwB
  have HWC := Lib.hid hwC
  have HB := Lib.hid hB
  clear hX hY hZ hidx hA0 hB0 hB1 hwA hwB hwC hB hp
  go_enter Tryd.func10, Tryd.ntmps10
  go_wp2_with (rw [HWA.out, HB.out, HWB.out, HWC.out]; with_reducible refine wpList_places hpC ?_; rw [HZ.out])
  go_loopw [7] (fun z wr => ∃ i : Nat, i ≤ 64 ∧ z = .int .i64 i ∧ wr.heap[B]? = some (arrO f) ∧ wr.heap[B + 1]? = some (.cells Y 25 (0, 0)) ∧ wr.heap[B + 2]? = some (arrO (layS f i)) ∧ Below B w wr ∧ B + 3 ≤ wr.heap.size) (fun z _ => 64 - (intOf z).toNat)
  case atStart => exact ⟨0, by omega, rfl, hC0, hC1, hC2, hbC, by omega⟩
  case round =>
    clear hC0 hC1 hC2 hbC hpC hzA hzB hzC
    obtain ⟨i, hi64, rfl, h0, h1, h2, hb, hz⟩ := hrel
    by_cases hlt : i < 64
    · have hix := fun w => HIX.out w i hlt
      have hpl := (place_num i hlt).1
      have hpf : placeF i = ((placeAt i : Nat) : Int) := rfl
      rw [hpf] at hix
      have S := Lib.hid (show layS f (i + 1) = setF (layS f i) (placeAt i) (f i) from rfl)
      obtain ⟨p, hpp⟩ : ∃ p, placeAt i = p := ⟨_, rfl⟩
      rw [hpp] at hix hpl S
      have c0 := arr_cell h0 hlt
      have c2 := arr_cell h2 hpl
      have ff := arr_free (i := p) h2
      generalize f i = y at c0 S
      generalize layS f i p = y2 at c2
      have PUT := Lib.hid (⟨heap_set h0 (by simp), heap_set h1 (by simp), by rw [S.out]; exact arr_put y h2, hb.setCell (by simp) _, by simp [World.setCell]; omega⟩ : (wr.setCell ⟨B + 2, p, none⟩ (.int .i64 y)).heap[B]? = some (arrO f) ∧ (wr.setCell ⟨B + 2, p, none⟩ (.int .i64 y)).heap[B + 1]? = some (.cells Y 25 (0, 0)) ∧ (wr.setCell ⟨B + 2, p, none⟩ (.int .i64 y)).heap[B + 2]? = some (arrO (layS f (i + 1))) ∧ Below B w (wr.setCell ⟨B + 2, p, none⟩ (.int .i64 y)) ∧ B + 3 ≤ (wr.setCell ⟨B + 2, p, none⟩ (.int .i64 y)).heap.size)
      clear h0 h1 h2 hb hpf hpp
      go_wp2
      go_roundw
      case rel => exact ⟨i + 1, by omega, by go_num, PUT.out⟩
      case measure => simp [intOf]; omega
    · obtain rfl : i = 64 := by omega
      obtain ⟨V, hV⟩ : ∃ V, arrA (layS f 64) = V := ⟨_, rfl⟩
      have HV := Lib.hid hV
      have h2' : wr.heap[B + 2]? = some (.cells V 25 (0, 0)) := by rw [← hV]; exact h2
      have HSV : (Tryd.prog.info? 25).map (·.size) = some V.size := by rw [← hV]; exact arr_sized _
      have HOV : V.all (·.oneCell') = true := by rw [← hV]; exact arrA_one _
      have HYV : Y.size = V.size := by rw [← hV, HSY, arrA_size]
      clear hV h2 h0
      go_wp2_with (first | (with_reducible refine wpList_load_row rfl 25 _ rfl (B + 2) rfl 25 V (0, 0) _ h2' Tryd.underlying25 rfl HSV ?_) | (with_reducible refine wp_store_arr rfl 25 _ _ rfl (B + 1) V Y rfl rfl 25 h1 HSV HYV HOV ?_; intro w2 hh2 hg2))
      refine bodyPost_ret (results_cell_row rfl _ _ (B + 1) 25 _ (0, 0) _ rfl hh2 Tryd.underlying25 rfl HSV) rfl ?_
      exact blk_at (layS_all f) HV.out (by rw [HB.out]; exact hb.grown hg2 (by omega) (fun k hk => by injection hk with hk; omega))
set_option maxRecDepth 100000 in
set_option maxHeartbeats 2000000 in
theorem told_code (f : Nat → Int) (w : World) (hp : HasScan w) : Calls Tryd.prog 12 #[.agg (arrA f)] w (BlkGives (tellF f) w) := by
  obtain ⟨B, hB⟩ : ∃ B, w.heap.size = B := ⟨_, rfl⟩
  obtain ⟨X, hX⟩ : ∃ X, arrA f = X := ⟨_, rfl⟩
  obtain ⟨Y, hY⟩ : ∃ Y, arrA (fun _ => 0) = Y := ⟨_, rfl⟩
  obtain ⟨Z, hZ⟩ : ∃ Z, arrA placeF = Z := ⟨_, rfl⟩
  have hidx := fun (w : World) (i : Nat) (h : i < 64) => arr_index placeF h w
  have hz0 : ∀ w, (zeroValue 25).run Tryd.prog w = .ok (.agg Y) w := by rw [← hY]; exact arr_zero
  have HSY : Y.size = 64 := by rw [← hY]; exact arrA_size _
  obtain ⟨wA, hwA⟩ : ∃ wA, w.alloc (.cells X 25 (0, 0)) = wA := ⟨_, rfl⟩
  obtain ⟨wB, hwB⟩ : ∃ wB, wA.alloc (.cells Y 25 (0, 0)) = wB := ⟨_, rfl⟩
  obtain ⟨wC, hwC⟩ : ∃ wC, wB.alloc (.cells Y 25 (0, 0)) = wC := ⟨_, rfl⟩
  have hzA : wA.heap.size = B + 1 := by rw [← hwA, ← hB]; simp
  have hzB : wB.heap.size = B + 2 := by rw [← hwB]; simp; omega
  have hzC : wC.heap.size = B + 3 := by rw [← hwC]; simp; omega
  have hA0 : wA.heap[B]? = some (arrO f) := by rw [← hwA, ← hB, ← hX]; exact heap_alloc_new w _
  have hB0 : wB.heap[B]? = some (arrO f) := by rw [← hwB]; exact heap_keep hA0
  have hB1 : wB.heap[B + 1]? = some (.cells Y 25 (0, 0)) := by rw [← hwB, ← hzA]; exact heap_alloc_new wA _
  have hC0 : wC.heap[B]? = some (arrO f) := by rw [← hwC]; exact heap_keep hB0
  have hC1 : wC.heap[B + 1]? = some (.cells Y 25 (0, 0)) := by rw [← hwC]; exact heap_keep hB1
  have hC2 : wC.heap[B + 2]? = some (arrO (tellS f 0)) := by
    rw [← hwC, ← hzB]
    refine (heap_alloc_new wB _).trans ?_
    rw [← hY]
    rfl
  have hbC : Below B w wC := by
    rw [← hwC, ← hwB, ← hwA, ← hB]
    exact (((Below.refl _ w).alloc (Nat.le_refl _) _).alloc (by simp) _).alloc (by simp; omega) _
  have hpC : HasScan wC := hp.below (by rw [hB]; exact hbC)
  rw [hX]
  rw [hZ] at hidx
  have HIX := Lib.hid hidx
  have HZ := Lib.hid hZ
  have HY := Lib.hid hY
  have HWA := Lib.hid hwA
  have HWB := Lib.hid hwB
  have HWC := Lib.hid hwC
  have HB := Lib.hid hB
  clear hX hY hZ hidx hA0 hB0 hB1 hwA hwB hwC hB hp
  go_enter Tryd.func12, Tryd.ntmps12
  go_wp2_with (rw [HWA.out, HB.out, HWB.out, HWC.out]; with_reducible refine wpList_places hpC ?_; rw [HZ.out])
  go_loopw [7] (fun z wr => ∃ i : Nat, i ≤ 64 ∧ z = .int .i64 i ∧ wr.heap[B]? = some (arrO f) ∧ wr.heap[B + 1]? = some (.cells Y 25 (0, 0)) ∧ wr.heap[B + 2]? = some (arrO (tellS f i)) ∧ Below B w wr ∧ B + 3 ≤ wr.heap.size) (fun z _ => 64 - (intOf z).toNat)
  case atStart => exact ⟨0, by omega, rfl, hC0, hC1, hC2, hbC, by omega⟩
  case round =>
    clear hC0 hC1 hC2 hbC hpC hzA hzB hzC
    obtain ⟨i, hi64, rfl, h0, h1, h2, hb, hz⟩ := hrel
    by_cases hlt : i < 64
    · have hix := fun w => HIX.out w i hlt
      have hpl := (place_num i hlt).1
      have hpf : placeF i = ((placeAt i : Nat) : Int) := rfl
      rw [hpf] at hix
      have S := Lib.hid (show tellS f (i + 1) = setF (tellS f i) i (f (placeAt i)) from rfl)
      obtain ⟨p, hpp⟩ : ∃ p, placeAt i = p := ⟨_, rfl⟩
      rw [hpp] at hix hpl S
      have c0 := arr_cell h0 hpl
      have c2 := arr_cell h2 hlt
      have ff := arr_free (i := i) h2
      generalize f p = y at c0 S
      generalize tellS f i i = y2 at c2
      have PUT := Lib.hid (⟨heap_set h0 (by simp), heap_set h1 (by simp), by rw [S.out]; exact arr_put y h2, hb.setCell (by simp) _, by simp [World.setCell]; omega⟩ : (wr.setCell ⟨B + 2, i, none⟩ (.int .i64 y)).heap[B]? = some (arrO f) ∧ (wr.setCell ⟨B + 2, i, none⟩ (.int .i64 y)).heap[B + 1]? = some (.cells Y 25 (0, 0)) ∧ (wr.setCell ⟨B + 2, i, none⟩ (.int .i64 y)).heap[B + 2]? = some (arrO (tellS f (i + 1))) ∧ Below B w (wr.setCell ⟨B + 2, i, none⟩ (.int .i64 y)) ∧ B + 3 ≤ (wr.setCell ⟨B + 2, i, none⟩ (.int .i64 y)).heap.size)
      clear h0 h1 h2 hb hpf hpp
      go_wp2
      go_roundw
      case rel => exact ⟨i + 1, by omega, by go_num, PUT.out⟩
      case measure => simp [intOf]; omega
    · obtain rfl : i = 64 := by omega
      obtain ⟨V, hV⟩ : ∃ V, arrA (tellS f 64) = V := ⟨_, rfl⟩
      have HV := Lib.hid hV
      have h2' : wr.heap[B + 2]? = some (.cells V 25 (0, 0)) := by rw [← hV]; exact h2
      have HSV : (Tryd.prog.info? 25).map (·.size) = some V.size := by rw [← hV]; exact arr_sized _
      have HOV : V.all (·.oneCell') = true := by rw [← hV]; exact arrA_one _
      have HYV : Y.size = V.size := by rw [← hV, HSY, arrA_size]
      clear hV h2 h0
      go_wp2_with (first | (with_reducible refine wpList_load_row rfl 25 _ rfl (B + 2) rfl 25 V (0, 0) _ h2' Tryd.underlying25 rfl HSV ?_) | (with_reducible refine wp_store_arr rfl 25 _ _ rfl (B + 1) V Y rfl rfl 25 h1 HSV HYV HOV ?_; intro w2 hh2 hg2))
      refine bodyPost_ret (results_cell_row rfl _ _ (B + 1) 25 _ (0, 0) _ rfl hh2 Tryd.underlying25 rfl HSV) rfl ?_
      exact blk_at (tellS_all f) HV.out (by rw [HB.out]; exact hb.grown hg2 (by omega) (fun k hk => by injection hk with hk; omega))
end Go.Proofs.YtefoiijpgpjooaaDoor
