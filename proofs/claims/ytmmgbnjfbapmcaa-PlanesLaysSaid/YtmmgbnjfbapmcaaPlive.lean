/- The chapter's example. No condition. -/
import Derived.Test.YtmmgbnjfbapmcaaPnewd
namespace Go.Proofs.Ytmmgbnjfbapmcaa
open Go.RowKit Go.Lib

theorem siz_six : siz 6 0 = 1024 ∧ siz 6 1 = 256 ∧ siz 6 2 = 256 ∧ isFmt 6 = true ∧ clip 300 0 255 = 255 := by decide +kernel
theorem own_slice {w : World} {v : Value} {g n : Nat} {f : Nat → Int} (h : OwnPl w v g n f) : ∃ a c, v = .slice a n c := by
  obtain ⟨c, h, _⟩ := h
  exact ⟨_, c, h⟩
set_option maxRecDepth 1000000 in
set_option maxHeartbeats 8000000 in
theorem lives17 (w : World) : Calls Try.prog 8 #[] w fun e w' => e = .returned (.bool true) ∧ Below w.heap.size w w' := by
  obtain ⟨s0, s1, s2, hk, hc⟩ := siz_six
  have c1 := new_code 6 300 w hk
  unfold NewGives at c1
  rw [hc] at c1
  have hF0 : (zeroValue 25).run Try.prog = fun w => .ok (.agg (frA 0 nilV)) w := funext fr_zero
  have hFz : ∀ w, (zeroValue 25).run Try.prog w = .ok (.agg (frA 0 nilV)) w := fr_zero
  clear hF0
  generalize hY : frA 0 nilV = Y at *
  have HYS : Y.size = 4 := by rw [← hY]; rfl
  clear hY
  go_enter Try.func8, Try.ntmps8
  go_wp2_with fail
  refine c1.mono ?_
  rintro e w1 ⟨v, g, rfl, hO, hb1⟩
  have HSV := fr_sized fr_size 6 v
  have HOV := fr_ones 6 v hO.ones
  have HYV : Y.size = (frA 6 v).size := HYS
  have hnp : ∀ p, p < 3 → 0 < siz 6 p := fun p _ => siz_some hk p
  have cR := fun (x : World) => frright_code 6 v (siz 6) x (fun p hp => own_slice (hO.pl p hp))
  rw [rightF_iff.2 ⟨hk, fun _ _ => rfl⟩] at cR
  obtain ⟨Z, hZ⟩ : ∃ Z, frA 6 v = Z := ⟨_, rfl⟩
  obtain ⟨w2, hw2⟩ : ∃ w2, w1.alloc (.cells (frA 6 v) 25 (0, 0)) = w2 := ⟨_, rfl⟩
  have hb2 : Below w1.heap.size w1 w2 := by rw [← hw2]; exact (Below.refl _ w1).alloc (Nat.le_refl _) _
  have h2 : w2.heap[w1.heap.size]? = some (frO 25 6 v) := by rw [← hw2]; exact heap_alloc_new w1 _
  have hz2 : w2.heap.size = w1.heap.size + 1 := by rw [← hw2]; simp
  have hO2 := hO.below hnp hb2
  have h2' : w2.heap[w1.heap.size]? = some (.cells Z 25 (0, 0)) := by rw [← hZ]; exact h2
  rw [hZ] at hw2 HSV HOV HYV cR
  rw [hZ]
  have HW2 := Lib.hid hw2
  have HZ := Lib.hid hZ
  have H2 := Lib.hid h2
  have HO2 := Lib.hid hO2
  have HB1 := Lib.hid hb1
  have HB2 := Lib.hid hb2
  clear hw2 hZ h2 hO hO2 hb1 hb2 c1 HYS
  go_wp2_with (first | (with_reducible refine wp_store_fresh rfl 25 _ _ rfl Z Y 25 rfl rfl HSV HYV HOV ?_; rw [HW2.out]) | (with_reducible refine wpList_wanted_load (by kernel_rfl) 25 _ rfl w1.heap.size rfl 25 Z (0, 0) _ h2' Try.underlying25 rfl HSV ?_))
  refine (cR _).mono ?_
  rintro e w3 ⟨rfl, hb3⟩
  have h3 := (hb3.block w1.heap.size (by omega)).trans H2.out
  have hO3 := HO2.out.below hnp hb3
  obtain ⟨x0, e0, -⟩ := hO3.pl 0 (by omega)
  obtain ⟨x1, e1, -, d1⟩ := hO3.pl 1 (by omega)
  obtain ⟨x2, e2, -⟩ := hO3.pl 2 (by omega)
  have c0 := fr_cell h3 (p := 0) (by omega)
  have c1 := fr_cell h3 (p := 1) (by omega)
  have c2 := fr_cell h3 (p := 2) (by omega)
  have c3 := (d1 7 (by rw [s1]; omega)).1
  rw [e0, s0] at c0
  rw [e1, s1] at c1
  rw [e2, s2] at c2
  have HBE := Lib.hid (HB1.out.trans ((HB2.out.mono HB1.out.size).trans (hb3.mono (by have := HB1.out.size; omega))))
  clear h3 hO3 d1 hb3 e0 e1 e2 cR h2'
  go_wp2
  go_ret
  exact ⟨rfl, HBE.out⟩
end Go.Proofs.Ytmmgbnjfbapmcaa
