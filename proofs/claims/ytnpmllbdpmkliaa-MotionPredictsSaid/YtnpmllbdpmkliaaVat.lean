/- The sample at halves, by the document. No condition. -/
import Derived.Test.YtnpmllbdpmkliaaVin
namespace Go.Proofs.Ytnpmllbdpmkliaa
open Go.RowKit Go.Lib

set_option maxRecDepth 1000000 in
set_option maxHeartbeats 8000000 in
theorem hat_page (k : Int) (v : Nat → Value) (n p x y : Nat) (f : Nat → Int) (w : World) (hp : p < 3) (hv : BtAt w (v p) n f) (hn : n ≤ 1073741824) (hx : x ≤ 10000) (hy : y ≤ 10000) (hin : y / 2 * wid k p + x / 2 + y % 2 * wid k p + x % 2 < n) :
    Calls Try.prog 32 #[.agg (frA k v), .int .i64 (p : Int), .int .i64 (x : Int), .int .i64 (y : Int)] w fun e w' => e = .returned (.int .i64 (halfF f (wid k p) x y)) ∧ Below w.heap.size w w' := by
  obtain ⟨B, hB⟩ : ∃ B, w.heap.size = B := ⟨_, rfl⟩
  obtain ⟨wA, hwA⟩ : ∃ wA, w.alloc (.cells (frA k v) 29 (0, 0)) = wA := ⟨_, rfl⟩
  have hA0 : wA.heap[B]? = some (frO 29 k v) := by rw [← hwA, ← hB]; exact heap_alloc_new w _
  have hbA : Below B w wA := by rw [← hwA, ← hB]; exact (Below.refl _ w).alloc (Nat.le_refl _) _
  have hzA : wA.heap.size = B + 1 := by rw [← hwA, ← hB]; simp
  obtain ⟨X, hX⟩ : ∃ X, frA k v = X := ⟨_, rfl⟩
  have HSX := fr_sized fr_size k v
  rw [hX] at hwA HSX ⊢
  have e1 : (x : Int).tmod 2 = ((x % 2 : Nat) : Int) := by rw [Int.tmod_eq_emod_of_nonneg (by omega)]; rfl
  have e2 : (y : Int).tmod 2 = ((y % 2 : Nat) : Int) := by rw [Int.tmod_eq_emod_of_nonneg (by omega)]; rfl
  have e3 : (x : Int).tdiv 2 = ((x / 2 : Nat) : Int) := by rw [Int.tdiv_eq_ediv_of_nonneg (by omega)]; rfl
  have e4 : (y : Int).tdiv 2 = ((y / 2 : Nat) : Int) := by rw [Int.tdiv_eq_ediv_of_nonneg (by omega)]; rfl
  have e5 : (x : Int) % 2 = ((x % 2 : Nat) : Int) := rfl
  have e6 : (y : Int) % 2 = ((y % 2 : Nat) : Int) := rfl
  have e7 : (x : Int) / 2 = ((x / 2 : Nat) : Int) := rfl
  have e8 : (y : Int) / 2 = ((y / 2 : Nat) : Int) := rfl
  have b1 : x % 2 ≤ 1 := by omega
  have b2 : y % 2 ≤ 1 := by omega
  have b3 : x / 2 ≤ 5000 := by omega
  have b4 : y / 2 ≤ 5000 := by omega
  have hq := Lib.hid (show halfF f (wid k p) x y = (f (y / 2 * wid k p + x / 2) + f (y / 2 * wid k p + x / 2 + x % 2) + (f (y / 2 * wid k p + x / 2 + y % 2 * wid k p) + f (y / 2 * wid k p + x / 2 + y % 2 * wid k p + x % 2)) + 2) / 4 from rfl)
  generalize halfF f (wid k p) x y = res at *
  have g1 : y / 2 * wid k p + x / 2 + x % 2 = y / 2 * wid k p + (x / 2 + x % 2) := by omega
  have g2 : y / 2 * wid k p + x / 2 + y % 2 * wid k p = (y / 2 + y % 2) * wid k p + x / 2 := by rw [Nat.add_mul]; omega
  have g3 : y / 2 * wid k p + x / 2 + y % 2 * wid k p + x % 2 = (y / 2 + y % 2) * wid k p + (x / 2 + x % 2) := by rw [Nat.add_mul]; omega
  have j0 : y / 2 * wid k p + x / 2 < n := by omega
  have j1 : y / 2 * wid k p + (x / 2 + x % 2) < n := by omega
  have j2 : (y / 2 + y % 2) * wid k p + x / 2 < n := by rw [← g2]; omega
  have j3 : (y / 2 + y % 2) * wid k p + (x / 2 + x % 2) < n := by rw [← g3]; omega
  rw [g3, g1, g2] at hq
  have K : ∀ (x y : World), Below (B + 1) wA x → Below x.heap.size x y → Below (B + 1) wA y := fun x y hx hy => hx.trans (hy.mono (by have := hx.size; omega))
  have HV := fun (x : World) (hx : Below (B + 1) wA x) => hv.below (by rw [hB]; exact hbA.trans (hx.mono (by omega)) : Below w.heap.size w x)
  have C0 := Lib.hid (fun (z : World) (hz : Below (B + 1) wA z) => (at_page k v n p (x / 2) (y / 2) f z hp (HV z hz) hn j0).mono fun e y h => (⟨h.1, K _ _ hz h.2⟩ : _ ∧ Below (B + 1) wA y))
  have C1 := Lib.hid (fun (z : World) (hz : Below (B + 1) wA z) => (at_page k v n p (x / 2 + x % 2) (y / 2) f z hp (HV z hz) hn j1).mono fun e y h => (⟨h.1, K _ _ hz h.2⟩ : _ ∧ Below (B + 1) wA y))
  have C2 := Lib.hid (fun (z : World) (hz : Below (B + 1) wA z) => (at_page k v n p (x / 2) (y / 2 + y % 2) f z hp (HV z hz) hn j2).mono fun e y h => (⟨h.1, K _ _ hz h.2⟩ : _ ∧ Below (B + 1) wA y))
  have C3 := Lib.hid (fun (z : World) (hz : Below (B + 1) wA z) => (at_page k v n p (x / 2 + x % 2) (y / 2 + y % 2) f z hp (HV z hz) hn j3).mono fun e y h => (⟨h.1, K _ _ hz h.2⟩ : _ ∧ Below (B + 1) wA y))
  have q0 := hv.range _ j0
  have q1 := hv.range _ j1
  have q2 := hv.range _ j2
  have q3 := hv.range _ j3
  rw [hX] at C0 C1 C2 C3
  have HX0 := Lib.hid (fun (z : World) (hz : Below (B + 1) wA z) => (by rw [← hX]; exact (hz.block B (by omega)).trans hA0 : z.heap[B]? = some (.cells X 29 (0, 0))))
  have HE := Lib.hid (fun (z : World) (hz : Below (B + 1) wA z) => (by rw [hB]; exact hbA.trans (hz.mono (by omega)) : Below w.heap.size w z))
  have X1 : ((x / 2 : Nat) : Int) + ((x % 2 : Nat) : Int) = ((x / 2 + x % 2 : Nat) : Int) := by omega
  have Y1 : ((y / 2 : Nat) : Int) + ((y % 2 : Nat) : Int) = ((y / 2 + y % 2 : Nat) : Int) := by omega
  have b5 : x / 2 + x % 2 ≤ 5001 := by omega
  have b6 : y / 2 + y % 2 ≤ 5001 := by omega
  generalize f (y / 2 * wid k p + x / 2) = z0 at *
  generalize f (y / 2 * wid k p + (x / 2 + x % 2)) = z1 at *
  generalize f ((y / 2 + y % 2) * wid k p + x / 2) = z2 at *
  generalize f ((y / 2 + y % 2) * wid k p + (x / 2 + x % 2)) = z3 at *
  clear g1 g2 g3 j0 j1 j2 j3 hin HV K hv hA0 hbA
  generalize x / 2 + x % 2 = x1 at *
  generalize y / 2 + y % 2 = y1 at *
  generalize x % 2 = xr at *
  generalize y % 2 = yr at *
  generalize x / 2 = xq at *
  generalize y / 2 = yq at *
  have u1 : IntKind.i64.wrap (x1 : Int) = (x1 : Int) := wrapNat (by omega)
  have u2 : IntKind.i64.wrap (y1 : Int) = (y1 : Int) := wrapNat (by omega)
  have u3 : IntKind.i64.wrap (xq : Int) = (xq : Int) := wrapNat (by omega)
  have u4 : IntKind.i64.wrap (yq : Int) = (yq : Int) := wrapNat (by omega)
  have dd : (z0 + z1 + z2 + z3 + 2).tdiv 4 = res := by rw [Int.tdiv_eq_ediv_of_nonneg (by omega), hq.out]; congr 1; omega
  have rr : 0 ≤ res ∧ res ≤ 255 := by rw [hq.out]; omega
  have ww : IntKind.i64.wrap res = res := wrapN (by omega)
  clear hq
  obtain ⟨S4, hS4⟩ : ∃ S4 : Nat → Int, S4 = fun i => if i = 0 then 0 else if i = 1 then z0 else if i = 2 then z0 + z1 else if i = 3 then z0 + z1 + z2 else z0 + z1 + z2 + z3 := ⟨_, rfl⟩
  have s0 : S4 0 = 0 := by rw [hS4]; rfl
  have s1 : S4 1 = z0 := by rw [hS4]; rfl
  have s2 : S4 2 = z0 + z1 := by rw [hS4]; rfl
  have s3 : S4 3 = z0 + z1 + z2 := by rw [hS4]; rfl
  have s4 : S4 4 = z0 + z1 + z2 + z3 := by rw [hS4]; rfl
  have H0 := Lib.hid s0
  have H1 := Lib.hid s1
  have H2 := Lib.hid s2
  have H3 := Lib.hid s3
  have H4 := Lib.hid s4
  have hS0 : Below (B + 1) wA wA := Below.refl _ _
  have HWA := Lib.hid hwA
  have HB := Lib.hid hB
  clear hX hwA hB hzA hS4 s0 s1 s2 s3 s4
  go_enter Try.func32, Try.ntmps32
  go_wp2
  rw [HWA.out, HB.out]
  go_loopw [11, 12] (fun s z wr => ∃ i : Nat, i ≤ 4 ∧ z = .int .i64 i ∧ s = .int .i64 (S4 i) ∧ Below (B + 1) wA wr) (fun _ z _ => 4 - (RowKit.intOf z).toNat)
  case atStart => exact ⟨0, by omega, rfl, by rw [H0.out], hS0⟩
  case round =>
    obtain ⟨i, hi4, rfl, rfl, hx⟩ := hrel
    have hi : i = 0 ∨ i = 1 ∨ i = 2 ∨ i = 3 ∨ i = 4 := by omega
    have h00 := HX0.out _ hx
    rcases hi with rfl | rfl | rfl | rfl | rfl
    case _ =>
      have cc := C0.out _ hx
      rw [H0.out]
      go_wp2_with (with_reducible refine wpList_load_row rfl 29 _ rfl B rfl 29 X (0, 0) _ h00 Try.underlying29 rfl HSX ?_)
      refine cc.mono ?_
      rintro e x2 ⟨rfl, hx2⟩
      clear hx h00 cc
      go_wp2
      go_roundw
      case rel => exact ⟨1, by omega, by go_num, by rw [H1.out], hx2⟩
      case measure => simp [RowKit.intOf]
    case _ =>
      have cc := C1.out _ hx
      rw [H1.out]
      go_wp2_with (with_reducible refine wpList_load_row rfl 29 _ rfl B rfl 29 X (0, 0) _ h00 Try.underlying29 rfl HSX ?_)
      refine cc.mono ?_
      rintro e x2 ⟨rfl, hx2⟩
      clear hx h00 cc
      go_wp2
      go_roundw
      case rel => exact ⟨2, by omega, by go_num, by rw [H2.out], hx2⟩
      case measure => simp [RowKit.intOf]
    case _ =>
      have cc := C2.out _ hx
      rw [H2.out]
      go_wp2_with (with_reducible refine wpList_load_row rfl 29 _ rfl B rfl 29 X (0, 0) _ h00 Try.underlying29 rfl HSX ?_)
      refine cc.mono ?_
      rintro e x2 ⟨rfl, hx2⟩
      clear hx h00 cc
      go_wp2
      go_roundw
      case rel => exact ⟨3, by omega, by go_num, by rw [H3.out], hx2⟩
      case measure => simp [RowKit.intOf]
    case _ =>
      have cc := C3.out _ hx
      rw [H3.out]
      go_wp2_with (with_reducible refine wpList_load_row rfl 29 _ rfl B rfl 29 X (0, 0) _ h00 Try.underlying29 rfl HSX ?_)
      refine cc.mono ?_
      rintro e x2 ⟨rfl, hx2⟩
      clear hx h00 cc
      go_wp2
      go_roundw
      case rel => exact ⟨4, by omega, by go_num, by rw [H4.out], hx2⟩
      case measure => simp [RowKit.intOf]
    case _ =>
      rw [H4.out]
      clear h00
      go_wp2
      go_ret
      exact ⟨rfl, HE.out _ hx⟩
end Go.Proofs.Ytnpmllbdpmkliaa
