/- The chapter's example of package median. No condition. -/
import Derived.Test.YtknmhemajmiboaaMedp
namespace Go.Proofs.Ytknmhemajmiboaa
open Go.RowKit Go.Lib

def exV : Nat → Int × Int
  | 0 => (1, 2)
  | 1 => (3, 4)
  | _ => (5, 0)
theorem vecs_three {w : World} {b : Nat} (h : w.heap[b]? = some (.cells #[.int .i64 1, .int .i64 2, .int .i64 3, .int .i64 4, .int .i64 5, .int .i64 0] 24 (0, 0))) : VecsAt w (some ⟨b, 0, none⟩) 3 exV := by
  have k := fun (o : Nat) (v : Value) (hv : [Value.int .i64 1, .int .i64 2, .int .i64 3, .int .i64 4, .int .i64 5, .int .i64 0][o]? = some v) => part_cells (o := o) (cs := [.int .i64 1, .int .i64 2, .int .i64 3, .int .i64 4, .int .i64 5, .int .i64 0]) h hv
  refine .inr ⟨b, 0, rfl, (Array.getElem?_eq_some_iff.1 h).1, fun i hi => ?_⟩
  match i, hi with
  | 0, _ => exact ⟨k 0 _ rfl, k 1 _ rfl⟩
  | 1, _ => exact ⟨k 2 _ rfl, k 3 _ rfl⟩
  | 2, _ => exact ⟨k 4 _ rfl, k 5 _ rfl⟩
theorem vecs_one {w : World} {b : Nat} (h : w.heap[b]? = some (.cells #[.int .i64 1, .int .i64 2] 24 (0, 0))) : VecsAt w (some ⟨b, 0, none⟩) 1 exV := by
  have k := fun (o : Nat) (v : Value) (hv : [Value.int .i64 1, .int .i64 2][o]? = some v) => part_cells (o := o) (cs := [.int .i64 1, .int .i64 2]) h hv
  refine .inr ⟨b, 0, rfl, (Array.getElem?_eq_some_iff.1 h).1, fun i hi => ?_⟩
  match i, hi with
  | 0, _ => exact ⟨k 0 _ rfl, k 1 _ rfl⟩
set_option maxHeartbeats 2000000 in
theorem lives19 (w : World) : Calls Try.prog 5 #[] w fun e w' => e = .returned (.bool true) ∧ Below w.heap.size w w' := by
  have q1 : medV exV 3 3 0 = (1, 2) := by decide +kernel
  have q2 : medV exV 3 3 1 = (0, 0) := by decide +kernel
  have q3 : medV exV 1 3 0 = (1, 2) := by decide +kernel
  have E1 := two_equal_self (1, 2)
  have E2 := two_equal_self (0, 0)
  obtain ⟨B, hB⟩ : ∃ B, w.heap.size = B := ⟨_, rfl⟩
  obtain ⟨wA, hwA⟩ : ∃ wA, w.alloc (.cells #[.int .i64 1, .int .i64 2, .int .i64 3, .int .i64 4, .int .i64 5, .int .i64 0] 24 (0, 0)) = wA := ⟨_, rfl⟩
  have V := vecs_three (show wA.heap[B]? = _ by rw [← hwA, ← hB]; exact heap_alloc_new w _)
  have hb : Below B w wA := by rw [← hwA, ← hB]; exact (Below.refl _ w).alloc (Nat.le_refl _) _
  have hz : wA.heap.size = B + 1 := by rw [← hwA, ← hB]; simp
  have C1 := Lib.hid (fun x (hx : Below wA.heap.size wA x) => medof_code exV (some ⟨B, 0, none⟩) 3 3 3 0 x (V.mono hx) (by decide) (by decide))
  have C2 := Lib.hid (fun x (hx : Below wA.heap.size wA x) => medof_code exV (some ⟨B, 0, none⟩) 3 3 3 1 x (V.mono hx) (by decide) (by decide))
  rw [q1] at C1
  rw [q2] at C2
  have HB := Lib.hid hB
  have HW := Lib.hid hwA
  clear V hB hwA q1 q2
  go_enter Try.func5, Try.ntmps5
  go_wp2_with fail
  rw [HW.out, HB.out]
  refine (C1.out wA (Below.refl _ _)).mono ?_
  rintro e w1 ⟨rfl, hb1⟩
  unfold twoA
  go_wp2_with fail
  refine (C2.out w1 hb1).mono ?_
  rintro e w2 ⟨rfl, hb2⟩
  unfold twoA
  go_wp2_with fail
  have C3 := medof_code exV (some ⟨w2.heap.size, 0, none⟩) 1 1 3 0 (w2.alloc (.cells #[.int .i64 1, .int .i64 2] 24 (0, 0))) (vecs_one (heap_alloc_new w2 _)) (by decide) (by decide)
  rw [q3] at C3
  refine C3.mono ?_
  rintro e w3 ⟨rfl, hb3⟩
  unfold twoA
  go_wp2
  go_ret
  have h2 : Below w2.heap.size w2 w3 := ((Below.refl _ w2).alloc (Nat.le_refl _) _).trans (hb3.mono (by simp))
  exact ⟨rfl, by rw [HB.out]; exact hb.trans ((hb1.trans (hb2.mono hb1.size)).mono (by omega) |>.trans (h2.mono (by have := hb1.size; have := hb2.size; omega)))⟩
end Go.Proofs.Ytknmhemajmiboaa
