/- A line of samples, clipped. Arrays of 8 bytes. No condition. -/
import Derived.Test.YtmmgbnjfbapmcaaPcut
namespace Go.Proofs.Ytmmgbnjfbapmcaa
open Go.RowKit Go.Lib

def arb (n : Nat) (r : Nat → Int) : Array Value := ((byL n r).map (Value.int .u8)).toArray
theorem arb_size (n : Nat) (r : Nat → Int) : (arb n r).size = n := by simp [arb, byL]
theorem arb_at {n : Nat} (r : Nat → Int) {i : Nat} (h : i < n) : (arb n r)[i]? = some (.int .u8 (r i)) := by simp [arb, byL, h]
theorem arb_one (n : Nat) (r : Nat → Int) : (arb n r).all (·.oneCell') = true := by
  rw [Array.all_eq_true_iff_forall_mem]
  intro v hv
  obtain ⟨x, _, rfl⟩ := List.mem_map.1 (by simpa [arb] using hv : v ∈ (byL n r).map (Value.int .u8))
  rfl
theorem arb_congr {n : Nat} {f g : Nat → Int} (h : ∀ i, i < n → f i = g i) : arb n f = arb n g := by
  unfold arb byL
  rw [List.map_congr_left fun i hi => h i (List.mem_range.1 hi)]
theorem arb_set {n : Nat} (f : Nat → Int) (i : Nat) (v : Int) : (arb n f).setIfInBounds i (.int .u8 v) = arb n (setF f i v) := by
  apply Array.ext'
  refine List.ext_getElem? fun k => ?_
  by_cases e : i = k
  · subst e
    by_cases hk : i < n <;> simp [arb, byL, setF, hk]
  · by_cases hk : k < n
    · have hne : ¬ k = i := fun h => e h.symm
      simp [arb, byL, setF, hk, e, hne]
    · simp [arb, byL, hk]
def arbO (n : Nat) (f : Nat → Int) : Obj := .cells (arb n f) 77 (0, 0)
theorem arb_cell {w : World} {B i n : Nat} {f : Nat → Int} (h : w.heap[B]? = some (arbO n f)) (hi : i < n) : w.cell? ⟨B, i, none⟩ = some (.int .u8 (f i)) := by
  rw [cell_of_row w B i _ _ _ h]
  exact arb_at f hi
theorem arb_free {w : World} {B i n : Nat} {f : Nat → Int} (h : w.heap[B]? = some (arbO n f)) : w.frozen? ⟨B, i, none⟩ = false := frozen_of_row w B i _ _ h
theorem arb_put {w : World} {B i n : Nat} {f : Nat → Int} (v : Int) (h : w.heap[B]? = some (arbO n f)) : (w.setCell ⟨B, i, none⟩ (.int .u8 v)).heap[B]? = some (arbO n (setF f i v)) := by
  rw [heap_setCell_same w B i _ _ _ h]
  unfold arbO
  rw [arb_set]
theorem arb_sized (f : Nat → Int) : (Try.prog.info? 77).map (·.size) = some (arb 8 f).size := by
  rw [arb_size]
  kernel_rfl
theorem arb_zero (w : World) : (zeroValue 77).run Try.prog w = .ok (.agg (arb 8 fun _ => 0)) w := by
  have h : (Try.prog.info? 77).map (fun i => i.zero) = some (some (.agg (arb 8 fun _ => 0))) := by kernel_rfl
  generalize (arb 8 fun _ => 0) = Z at h ⊢
  cases hq : Try.prog.info? 77 with
  | none => simp [hq] at h
  | some i =>
    simp [hq] at h
    simp [zeroValue, typeInfo, hq, h]

/-- A line of a block of samples. -/
def toldF (l : Nat → Int) (y : Nat) : Nat → Int := fun x => clip (l (8 * y + x)) 0 255
set_option maxRecDepth 100000 in
set_option maxHeartbeats 2000000 in
theorem told_code (l : Nat → Int) (y : Nat) (w : World) (hy : y < 8) : Calls Try.prog 37 #[.agg (arrA l), .int .i64 (y : Int)] w fun e w' => e = .returned (.agg (arb 8 (toldF l y))) ∧ Below w.heap.size w w' := by
  obtain ⟨B, wA, wB, wC, hB, hwA, hwB, hwC, hzA, hzB, hzC, hC0, hC1, hC2, hbC⟩ := laid3 w (.cells (arrA l) 35 (0, 0)) (.cells (arb 8 fun _ => 0) 77 (0, 0)) (.cells (arb 8 fun _ => 0) 77 (0, 0))
  replace hC0 : wC.heap[B]? = some (arrO l) := hC0
  replace hC2 : wC.heap[B + 2]? = some (arbO 8 (putS (toldF l y) 0)) := hC2
  have hz0 := arb_zero
  have HPP := Lib.hid (fun g => arb_sized g)
  have HYS : (arb 8 fun _ => 0).size = 8 := arb_size _ _
  have C1 := Lib.hid (fun (x : Nat) w => clipped_code (l (8 * y + x)) w)
  generalize arrA l = X at *
  generalize (arb 8 fun _ => 0) = Y at *
  have HWA := Lib.hid hwA
  have HWB := Lib.hid hwB
  have HWC := Lib.hid hwC
  have HB := Lib.hid hB
  clear hwA hwB hwC hB hzA hzB
  go_enter Try.func37, Try.ntmps37
  go_wp2
  rw [HWA.out, HB.out, HWB.out, HWC.out]
  go_loopw [7] (fun z wr => ∃ x : Nat, x ≤ 8 ∧ z = .int .i64 x ∧ wr.heap[B]? = some (arrO l) ∧ wr.heap[B + 1]? = some (.cells Y 77 (0, 0)) ∧ wr.heap[B + 2]? = some (arbO 8 (putS (toldF l y) x)) ∧ Below B w wr ∧ B + 3 ≤ wr.heap.size) (fun z _ => 8 - (RowKit.intOf z).toNat)
  case atStart => exact ⟨0, by omega, rfl, hC0, hC1, hC2, hbC, by omega⟩
  case round =>
    clear hC0 hC1 hC2 hbC hzC
    obtain ⟨x, hx8, rfl, h0, h1, h2, hb, hz⟩ := hrel
    by_cases hlt : x < 8
    · have t0 : decide ((x : Int) < 8) = true := by simp; omega
      have cx := C1.out x
      have c0 := arr_cell h0 (show 8 * y + x < 64 by omega)
      have c2 := arb_cell h2 hlt
      have ff := arb_free (i := x) h2
      have S : putS (toldF l y) (x + 1) = setF (putS (toldF l y) x) x (clip (l (8 * y + x)) 0 255) := rfl
      have PUT := Lib.hid (⟨heap_set h0 (by simp; omega), heap_set h1 (by simp), by rw [S]; exact arb_put _ h2, hb.setCell (by simp; omega) _, by simp [World.setCell]; omega⟩ : (wr.setCell ⟨B + 1 + 1, x, none⟩ (.int .u8 (clip (l (8 * y + x)) 0 255))).heap[B]? = some (arrO l) ∧ (wr.setCell ⟨B + 1 + 1, x, none⟩ (.int .u8 (clip (l (8 * y + x)) 0 255))).heap[B + 1]? = some (.cells Y 77 (0, 0)) ∧ (wr.setCell ⟨B + 1 + 1, x, none⟩ (.int .u8 (clip (l (8 * y + x)) 0 255))).heap[B + 2]? = some (arbO 8 (putS (toldF l y) (x + 1))) ∧ Below B w (wr.setCell ⟨B + 1 + 1, x, none⟩ (.int .u8 (clip (l (8 * y + x)) 0 255))) ∧ B + 3 ≤ (wr.setCell ⟨B + 1 + 1, x, none⟩ (.int .u8 (clip (l (8 * y + x)) 0 255))).heap.size)
      clear S
      generalize putS (toldF l y) x x = y2 at c2
      generalize clip (l (8 * y + x)) 0 255 = z at *
      generalize l (8 * y + x) = z1 at *
      clear h0 h1 h2 hb hz
      go_wp2_with (with_reducible refine (cx _).mono ?_; rintro e w1 ⟨rfl, rfl⟩)
      go_roundw
      case rel => exact ⟨x + 1, by omega, by go_num, PUT.out⟩
      case measure => simp [RowKit.intOf]; omega
    · obtain rfl : x = 8 := by omega
      have t0 : decide ((8 : Int) < 8) = false := by simp
      have HSV := HPP.out (putS (toldF l y) 8)
      have HOV := arb_one 8 (putS (toldF l y) 8)
      have HVS : (arb 8 (putS (toldF l y) 8)).size = 8 := arb_size _ _
      have HVE : arb 8 (putS (toldF l y) 8) = arb 8 (toldF l y) := arb_congr (putS_most 8 (toldF l y))
      have h2' : wr.heap[B + 2]? = some (.cells (arb 8 (putS (toldF l y) 8)) 77 (0, 0)) := h2
      clear h2
      rw [HVE] at HSV HOV HVS h2'
      obtain ⟨V, hV⟩ : ∃ V, arb 8 (toldF l y) = V := ⟨_, rfl⟩
      rw [hV] at HSV HOV HVS h2'
      have HVV := Lib.hid hV
      have HYV : Y.size = V.size := by rw [HYS, HVS]
      clear HVE hV
      go_wp2_with (first | (with_reducible refine wpList_load_row rfl 77 _ rfl (B + 2) rfl 77 V (0, 0) _ h2' Try.underlying77 rfl HSV ?_) | (with_reducible refine wp_store_arr rfl 77 _ _ rfl (B + 1) V Y rfl rfl 77 h1 HSV HYV HOV ?_; intro w2 hh2 hg2))
      refine bodyPost_ret (results_cell_row rfl _ _ (B + 1) 77 _ (0, 0) _ rfl hh2 Try.underlying77 rfl HSV) rfl ?_
      exact ⟨by rw [HVV.out], by rw [HB.out]; exact hb.grown hg2 (by omega) (fun k hk => by injection hk with hk; omega)⟩
end Go.Proofs.Ytmmgbnjfbapmcaa
