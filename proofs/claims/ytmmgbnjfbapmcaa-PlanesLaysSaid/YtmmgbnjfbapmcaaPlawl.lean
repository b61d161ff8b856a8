/- The walk of PlanesLays. No condition. -/
import Derived.Test.YtmmgbnjfbapmcaaPlawm
import Derived.Test.YtmmgbnjfbapmcaaPlawn
namespace Go.Proofs.Ytmmgbnjfbapmcaa
open Go.RowKit Go.Lib

set_option maxRecDepth 1000000 in
set_option maxHeartbeats 8000000 in
theorem planesLays_walk (k : Int) (op : Option Addr) (len cap : Nat) (w : World) (_ : (Lit.int .i64 k).wf = true) (hrow : RowsAt w (PieceIn w) 2 op len) (hlm : len ≤ maxLen) :
    Calls Try.prog 5 #[.int .i64 k, .slice op len cap] w fun e w' => e = .returned (.bool true) ∧ Below w.heap.size w w' := by
  obtain ⟨B, hB⟩ : ∃ B, w.heap.size = B := ⟨_, rfl⟩
  rw [hB]
  have KK := Lib.hid (fun (x y : World) (hx : Below B w x) (hy : Below x.heap.size x y) => (hx.trans (hy.mono (by have := hx.size; omega)) : Below B w y))
  have CL := Lib.hid (fun (x : World) (hx : Below B w x) => ((lives17 x).mono fun e y h => ⟨h.1, KK.out x y hx h.2⟩ : Calls Try.prog 8 #[] x fun e y => e = .returned (.bool true) ∧ Below B w y))
  have hS0 : Below B w w := Below.refl _ _
  have HRO := Lib.hid hrow
  have HB := Lib.hid hB
  clear hrow hB
  by_cases hq : 20 < len
  · have t0 : decide (20 < (len : Int)) = true := decide_eq_true (by omega)
    go_enter Try.func5, Try.ntmps5
    go_wp2_with fail
    refine (CL.out _ hS0).mono ?_
    rintro e x2 ⟨rfl, hx2⟩
    go_wp2
    go_ret
    exact ⟨rfl, hx2⟩
  have t0 : decide (20 < (len : Int)) = false := decide_eq_false (by omega)
  by_cases h35 : 3 ≤ k ∧ k ≤ 5
  · have t1 : decide (3 ≤ k) = true := decide_eq_true (by omega)
    have t2 : decide (k ≤ 5) = true := decide_eq_true (by omega)
    clear h35
    go_enter Try.func5, Try.ntmps5
    go_wp2_with fail
    refine (CL.out _ hS0).mono ?_
    rintro e x2 ⟨rfl, hx2⟩
    go_wp2
    go_ret
    exact ⟨rfl, hx2⟩
  have h36 : k < 3 ∨ (3 ≤ k ∧ 5 < k) := by omega
  by_cases hk : isFmt k = true
  · rw [← HB.out]
    rcases h36 with h36 | ⟨h36, h37⟩
    · exact planesLays_less k op len cap w HRO.out hlm hk hq h36
    · exact planesLays_more k op len cap w HRO.out hlm hk hq h36 h37
  clear h35
  have hFz : ∀ w, (zeroValue 25).run Try.prog w = .ok (.agg (frA 0 nilV)) w := fr_zero
  have hCz : ∀ w, (zeroValue 49).run Try.prog w = .ok (.agg (frA 0 nilV)) w := can_zero
  have hPz := pt_zero
  have L1 := Lib.hid (lay_nil 0 (fun _ => 0))
  have L2 := Lib.hid (fun (x : World) (Z : Nat) (h : x.heap[Z]? = some (frO 49 0 nilV)) => lay_none 0 Z nilV 0 (fun _ => 0) x h (by decide +kernel))
  have L3 := Lib.hid frame_nil
  have L4 := Lib.hid same_nil
  have L5 := Lib.hid frame_zero
  have HYS : (frA 0 nilV).size = 4 := rfl
  obtain ⟨Y, hY⟩ : ∃ Y, frA 0 nilV = Y := ⟨_, rfl⟩
  have HCO := Lib.hid (fun (x : World) => (by rw [← hY]; exact heap_alloc_new x _ : (x.alloc (.cells Y 49 (0, 0))).heap[x.heap.size]? = some (frO 49 0 nilV)))
  rw [hY] at hFz hCz HYS L3 L4 L5
  generalize (arn 384 fun _ => 0) = PZ at hPz L1 L2
  clear hY
  have hk0 : isFmt k = false := by simpa using hk
  have HM := Lib.hid (many_page k)
  rw [cells_none hk0, show ((0 : Nat) : Int) = 0 from rfl] at HM
  have HON := Lib.hid (fun w => on_none k w hk0)
  clear hk hk0
  rcases h36 with h36 | ⟨h36, h37⟩
  all_goals
    (first | have t1 : decide (3 ≤ k) = false := decide_eq_false (by omega) | (have t1 : decide (3 ≤ k) = true := decide_eq_true (by omega); have t2 : decide (k ≤ 5) = false := decide_eq_false (by omega)))
    go_enter Try.func5, Try.ntmps5
    go_wp2_with fail
    refine (HON.out _).mono ?_
    rintro e x ⟨rfl, hb⟩
    have hx := KK.out _ _ hS0 (by rw [HB.out] at hb ⊢; exact hb)
    clear hb
    go_wp2_with fail
    refine (L1.out _).mono ?_
    rintro e x2 ⟨rfl, hb2⟩
    have hZ1 := HCO.out x
    have hx1 := KK.out _ _ hx ((Below.refl _ x).alloc (Nat.le_refl _) (.cells Y 49 (0, 0)))
    have hx2 := KK.out _ _ hx1 hb2
    have hZ2 := (hb2.block _ (Array.getElem?_eq_some_iff.1 hZ1).1).trans hZ1
    go_wp2_with fail
    refine (L2.out _ _ hZ2).mono ?_
    rintro e x3 ⟨rfl, hb3⟩
    have hx3 := KK.out _ _ hx2 hb3
    have hZ3 := (hb3.block _ (Array.getElem?_eq_some_iff.1 hZ2).1).trans hZ2
    go_wp2_with fail
    refine (L3.out _).mono ?_
    rintro e x4 ⟨rfl, hb4⟩
    have hx4 := KK.out _ _ hx3 hb4
    have hZ4 := (hb4.block _ (Array.getElem?_eq_some_iff.1 hZ3).1).trans hZ3
    go_wp2_with fail
    refine (L4.out _).mono ?_
    rintro e x5 ⟨rfl, hb5⟩
    have hx5 := KK.out _ _ hx4 hb5
    have hZ5 := (hb5.block _ (Array.getElem?_eq_some_iff.1 hZ4).1).trans hZ4
    go_wp2_with fail
    refine (L5.out _ _ hZ5).mono ?_
    rintro e x6 ⟨rfl, hb6⟩
    have hx6 := KK.out _ _ hx5 hb6
    go_wp2_with fail
    refine (L4.out _).mono ?_
    rintro e x7 ⟨rfl, hb7⟩
    have hx7 := KK.out _ _ hx6 hb7
    go_wp2_with fail
    refine (HM.out _).mono ?_
    rintro e x8 ⟨rfl, hb8⟩
    have hx8 := KK.out _ _ hx7 hb8
    go_wp2_with fail
    refine (CL.out _ hx8).mono ?_
    rintro e x9 ⟨rfl, hx9⟩
    go_wp2
    go_ret
    exact ⟨rfl, hx9⟩
end Go.Proofs.Ytmmgbnjfbapmcaa
