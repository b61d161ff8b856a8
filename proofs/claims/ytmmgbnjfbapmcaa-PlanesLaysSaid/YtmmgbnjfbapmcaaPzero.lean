/- The frame of a canvas that is nothing. No condition. -/
import Derived.Test.YtmmgbnjfbapmcaaPframe
namespace Go.Proofs.Ytmmgbnjfbapmcaa
open Go.RowKit Go.Lib

theorem setV_nil (p : Nat) : setV nilV p (.slice none 0 0) = nilV := by
  funext q
  unfold setV nilV
  split <;> rfl
set_option maxRecDepth 1000000 in
set_option maxHeartbeats 8000000 in
theorem frame_bare (k : Int) (C : Nat) (v : Nat → Value) (w : World) (hv : ∀ p, v p = .slice none 0 0) (hC : w.heap[C]? = some (frO 49 k v)) :
    Calls Try.prog 20 #[.pointer (some ⟨C, 0, none⟩)] w fun e w' => e = .returned (.agg (frA k nilV)) ∧ Below w.heap.size w w' := by
  obtain ⟨B, hB⟩ : ∃ B, w.heap.size = B := ⟨_, rfl⟩
  have hCs : C < B := by rw [← hB]; exact (Array.getElem?_eq_some_iff.1 hC).1
  obtain ⟨wA, hwA⟩ : ∃ wA, w.alloc (.cells (frA 0 nilV) 25 (0, 0)) = wA := ⟨_, rfl⟩
  obtain ⟨wB, hwB⟩ : ∃ wB, wA.alloc (.cells (frA k nilV) 25 (0, 0)) = wB := ⟨_, rfl⟩
  have hzA : wA.heap.size = B + 1 := by rw [← hwA, ← hB]; simp
  have hzB : wB.heap.size = B + 2 := by rw [← hwB]; simp [hzA]
  have hC0 : wB.heap[B]? = some (frO 25 0 nilV) := by rw [← hwB]; refine heap_keep ?_; rw [← hwA, ← hB]; exact heap_alloc_new w _
  have hC1 : wB.heap[B + 1]? = some (frO 25 k nilV) := by rw [← hwB, ← hzA]; exact heap_alloc_new wA _
  have hbC : Below B w wB := by rw [← hwB, ← hwA, ← hB]; exact ((Below.refl _ w).alloc (Nat.le_refl _) _).alloc (by simp) _
  have HCC := Lib.hid (fun (x : World) (hx : Below B w x) => (hx.block C hCs).trans hC)
  have HV := Lib.hid hv
  have HIX := Lib.hid (fun p (hp : p < 3) w => fr_index v hp w)
  have ck := fr_cell0 (HCC.out wB hbC)
  have p0 := fr_cell (HCC.out wB hbC) (p := 0) (by omega)
  have p1 := fr_cell (HCC.out wB hbC) (p := 1) (by omega)
  have p2 := fr_cell (HCC.out wB hbC) (p := 2) (by omega)
  have ckA : wA.cell? ⟨C, 0, none⟩ = some (.int .i64 k) := by
    rw [← hwA]
    exact fr_cell0 (T := 49) (v := v) (heap_keep hC)
  have ckW : (w.alloc (.cells (frA 0 nilV) 25 (0, 0))).cell? ⟨C, 0, none⟩ = some (.int .i64 k) := by rw [hwA]; exact ckA
  unfold frA frL nilV at hwA hwB ckW
  rw [← hwB, ← hwA] at p0 p1 p2
  have HWA := Lib.hid hwA
  have HWB := Lib.hid hwB
  have HB := Lib.hid hB
  clear hwA hwB hB hC hv hzA
  go_enter Try.func20, Try.ntmps20
  go_wp2
  rw [HWA.out, HB.out, HWB.out]
  clear p0 p1 p2 ck ckA ckW
  go_loopw [20] (fun z wr => ∃ i : Nat, i ≤ 3 ∧ z = .int .i64 i ∧ wr.heap[B]? = some (frO 25 0 nilV) ∧ wr.heap[B + 1]? = some (frO 25 k nilV) ∧ Below B w wr) (fun z _ => 3 - (RowKit.intOf z).toNat)
  case atStart => exact ⟨0, by omega, rfl, hC0, hC1, hbC⟩
  case round =>
    clear hC0 hC1 hbC hzB
    obtain ⟨i, hi, rfl, h0, h1, hb⟩ := hrel
    by_cases hlt : i < 3
    · have t0 : decide ((i : Int) < 3) = true := by simp; omega
      have hix := fun w => HIX.out i hlt w
      have cl := clone_nil wr
      rw [← HV.out i] at cl
      go_wp2_with fail
      refine cl.mono ?_
      rintro e w3 ⟨rfl, rfl⟩
      have cc := fr_cell h1 hlt
      have ff := fr_free h1 (1 + i)
      have hvi := HV.out i
      have PUT := Lib.hid (⟨heap_set h0 (by simp), by have h := fr_put h1 hlt (.slice none 0 0); rw [setV_nil] at h; exact h, hb.setCell (by simp) _⟩ : (wr.setCell ⟨B + 1, 1 + i, none⟩ (.slice none 0 0)).heap[B]? = some (frO 25 0 nilV) ∧ (wr.setCell ⟨B + 1, 1 + i, none⟩ (.slice none 0 0)).heap[B + 1]? = some (frO 25 k nilV) ∧ Below B w (wr.setCell ⟨B + 1, 1 + i, none⟩ (.slice none 0 0)))
      clear h0 h1 hb cl
      go_wp2
      go_roundw
      case rel => exact ⟨i + 1, by omega, by go_num, PUT.out⟩
      case measure => simp [RowKit.intOf]; omega
    · obtain rfl : i = 3 := by omega
      have t0 : decide ((3 : Int) < 3) = false := by simp
      have HSV := fr_sized fr_size k nilV
      have HOV := fr_ones k nilV (fun _ _ => rfl)
      have HYV : (frA 0 nilV).size = (frA k nilV).size := rfl
      have h0' : wr.heap[B]? = some (.cells (frA 0 nilV) 25 (0, 0)) := h0
      have h1' : wr.heap[B + 1]? = some (.cells (frA k nilV) 25 (0, 0)) := h1
      clear h0 h1
      obtain ⟨Z, hZ⟩ : ∃ Z, frA k nilV = Z := ⟨_, rfl⟩
      rw [hZ] at HSV HOV HYV h1'
      have HZ := Lib.hid hZ
      clear hZ
      generalize frA 0 nilV = Y at *
      go_wp2_with (first | (with_reducible refine wpList_load_row rfl 25 _ rfl (B + 1) rfl 25 Z (0, 0) _ h1' Try.underlying25 rfl HSV ?_) | (with_reducible refine wp_store_arr rfl 25 _ _ rfl B Z Y rfl rfl 25 h0' HSV HYV HOV ?_; intro w2 hh2 hg2))
      refine bodyPost_ret (results_cell_row rfl _ _ B 25 _ (0, 0) _ rfl hh2 Try.underlying25 rfl HSV) rfl ?_
      refine ⟨by rw [HZ.out], ?_⟩
      rw [HB.out]
      exact hb.grown hg2 (by have := hb.size; have := HB.out; omega) (fun k hk => by injection hk with hk; omega)
theorem frame_zero (C : Nat) (w : World) (hC : w.heap[C]? = some (frO 49 0 nilV)) :
    Calls Try.prog 20 #[.pointer (some ⟨C, 0, none⟩)] w fun e w' => e = .returned (.agg (frA 0 nilV)) ∧ Below w.heap.size w w' := frame_bare 0 C nilV w (fun _ => rfl) hC
end Go.Proofs.Ytmmgbnjfbapmcaa
