/- The example of chapter 6 comes out. No condition. -/
import Derived.Test.YtoacbdaamdodaaaDoorMtake
namespace Go.Proofs.YtoacbdaamdodaaaDoor
open Go.RowKit Go.Lib

theorem lives6_tk : mtk true ((showL [64]).drop 0) = (0, 0, 6, 0) ∧ mtk false ((showL [64]).drop 0) = (3, 2, 0, 3) := by decide +kernel
theorem lives6_row : rowAt true 4 3 = ⟨#[48, 48, 48, 48, 48, 48, 48, 49, 48]⟩ := by decide +kernel
/-- What a call leaves that has a Reader of its own. -/
theorem below_own {B rb : Nat} {w x y : World} (h : Below B w x) (hz : B ≤ x.heap.size) (hg : x.grownBy y (some rb)) (hrb : B ≤ rb) : Below B w y ∧ B ≤ y.heap.size :=
  ⟨h.grown hg hz (fun k e => by injection e with e; omega), Nat.le_trans hz hg.size⟩
set_option maxRecDepth 100000 in
set_option maxHeartbeats 4000000 in
theorem lives6 (w : World) : Calls Tryd.prog 8 #[] w fun e w' => e = .returned (.bool true) ∧ Below w.heap.size w w' := by
  obtain ⟨t1, t2⟩ := lives6_tk
  have T1 := Lib.hid t1
  have T2 := Lib.hid t2
  clear t1 t2
  go_enter Tryd.func8, Tryd.ntmps8
  go_wp2_with fail
  refine (mrow_code true 4 3 _).mono ?_
  rintro e w1 ⟨rfl, hb1⟩
  rw [lives6_row]
  have hz1 := hb1.size
  go_wp2_with fail
  refine (rnew_code _ _).mono ?_
  rintro e w2 ⟨rfl, rfl⟩
  obtain ⟨R, hR⟩ : ∃ R, w1.heap.size = R := ⟨_, rfl⟩
  have hr1 : IsRd (w1.alloc (rdObj ⟨#[64]⟩ 0)) R ⟨#[64]⟩ 0 := IsRd.fresh hR (by decide)
  have hb2 : Below w.heap.size w (w1.alloc (rdObj ⟨#[64]⟩ 0)) := hb1.alloc hz1 _
  have hz2 : w.heap.size ≤ (w1.alloc (rdObj ⟨#[64]⟩ 0)).heap.size := hb2.size
  rw [hR] at hz1 ⊢
  generalize w1.alloc (rdObj ⟨#[64]⟩ 0) = x1 at hr1 hb2 hz2 ⊢
  clear hb1 hR
  go_wp2_with fail
  refine (mtake_code true _ R _ 0 hr1).mono ?_
  rintro e x2 ⟨rfl, hr2, hg2⟩
  obtain ⟨hb3, hz3⟩ := below_own hb2 hz2 hg2 hz1
  rw [show (⟨#[64]⟩ : ByteArray).data.toList = [64] from rfl, T1.out]
  clear hr1 hb2 hz2 hr2 hg2 hz1
  go_wp2_with fail
  refine (rnew_code _ _).mono ?_
  rintro e w3 ⟨rfl, rfl⟩
  obtain ⟨R2, hR2⟩ : ∃ R, x2.heap.size = R := ⟨_, rfl⟩
  have hr4 : IsRd (x2.alloc (rdObj ⟨#[64]⟩ 0)) R2 ⟨#[64]⟩ 0 := IsRd.fresh hR2 (by decide)
  have hb4 : Below w.heap.size w (x2.alloc (rdObj ⟨#[64]⟩ 0)) := hb3.alloc hz3 _
  have hz4 : w.heap.size ≤ (x2.alloc (rdObj ⟨#[64]⟩ 0)).heap.size := hb4.size
  rw [hR2] at hz3 ⊢
  generalize x2.alloc (rdObj ⟨#[64]⟩ 0) = x3 at hr4 hb4 hz4 ⊢
  clear hb3 hR2
  go_wp2_with fail
  refine (mtake_code false _ R2 _ 0 hr4).mono ?_
  rintro e x4 ⟨rfl, hr5, hg5⟩
  obtain ⟨hb6, _⟩ := below_own hb4 hz4 hg5 hz3
  rw [show (⟨#[64]⟩ : ByteArray).data.toList = [64] from rfl, T2.out]
  clear hr4 hb4 hz4 hr5 hg5 hz3
  go_wp2
  go_ret
  exact ⟨rfl, hb6⟩
end Go.Proofs.YtoacbdaamdodaaaDoor
