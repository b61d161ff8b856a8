/- The example of chapter 14 comes out; rows for columns by the law's own words; and what a row's condition on the listed variable gives: package dct's variable holds its table. Condition: the variable holds its table. -/
import Derived.Test.YtegppidfmjcnoaaDoorDturn
import Derived.Test.YtegppidfmjcnoaaDoorRows
import Derived.Great.BuildSlice
namespace Go.Proofs.YtegppidfmjcnoaaDoor
open Go.RowKit Go.Lib

theorem dct_text : (Rows.laid_overspill_dct_weights : DataW Unit) = tabData .i64 wtZ := by kernel_rfl
theorem dct_laid {laid : List (String × DataW Unit)} {W : World} (hL : laidMetH Tryd.prog laid W) (hm : ("overspill/dct.weights", Rows.laid_overspill_dct_weights) ∈ laid ∧ (laid.all fun x => x.2.handleName?.isNone) = true) : HasDct W := by
  rw [MakeChecks.laidMetH_plain _ _ _ hm.2] at hL
  obtain ⟨ps, hv, _, _⟩ := hL
  have h1 := hm.1
  rw [dct_text] at h1
  have hlc : wtZ.length = 64 := rfl
  intro i hi
  have g1 := ints_laid hv h1 (g := 0) (t := 22) (by kernel_rfl) (by kernel_rfl) Tryd.underlying22 Tryd.underlying3 (by kernel_rfl) (by kernel_rfl) i (by rw [hlc]; exact hi)
  rw [g1]
  unfold wt
  rw [List.getElem?_eq_getElem (by rw [hlc]; exact hi)]
  rfl
/-- Blocks with a first number alone, and noughts, as literals. -/
theorem forward_at {f g : Nat → Int} (h : ∀ i, i < 64 → fwdB f i = g i) (w : World) (hp : HasDct w) : Calls Tryd.prog 7 #[.agg (arn 64 f)] w fun e w' => e = .returned (.agg (arn 64 g)) ∧ Below w.heap.size w w' := by
  rw [← arn_congr h]
  exact forward_code f w hp
theorem inverse_at {f g : Nat → Int} (h : ∀ i, i < 64 → invB f i = g i) (w : World) (hp : HasDct w) : Calls Tryd.prog 10 #[.agg (arn 64 f)] w fun e w' => e = .returned (.agg (arn 64 g)) ∧ Below w.heap.size w w' := by
  rw [← arn_congr h]
  exact inverse_code f w hp
theorem arn_equal (f : Nat → Int) (w : World) : (Op.equalIn 10000 22 (.agg (arn 64 f)) (.agg (arn 64 f))).run Tryd.prog w = .ok true w := (arr_equal f f w).trans (by rw [arrEq_iff.2 fun _ _ => rfl])
theorem ten_flat : ∀ p, p < 64 → invB (oneF 80) p = 10 := fun p hp => (inv_one 80 p hp).trans (by decide +kernel)
theorem ten_back : ∀ p, p < 64 → fwdB (fun _ => 10) p = oneF 80 p := fun p hp => (fwd_flat 10 p hp).trans (by unfold flatTo oneF; split <;> rfl)
set_option maxRecDepth 100000 in
set_option maxHeartbeats 2000000 in
theorem lives14 (w : World) (hp : HasDct w) : Calls Tryd.prog 9 #[] w fun e w' => e = .returned (.bool true) ∧ Below w.heap.size w w' := by
  obtain ⟨Y, hY⟩ : ∃ Y, arn 64 (fun _ => 0) = Y := ⟨_, rfl⟩
  have hza : ∀ w, (zeroValue 22).run Tryd.prog w = .ok (.agg Y) w := by rw [← hY]; exact arr_zero
  have C1 := Lib.hid (fun x hx => inverse_at ten_flat x hx)
  have C2 := Lib.hid (fun x hx => forward_at ten_back x hx)
  have q1 := arn_equal (oneF 80)
  have HSV : (Tryd.prog.info? 22).map (·.size) = some (arn 64 fun _ => 10).size := arr_sized _
  have HOV := arn_one 64 fun _ => 10
  have HYV : Y.size = (arn 64 fun _ => 10).size := by rw [← hY, arn_size, arn_size]
  have hcell := fun (x : World) (b : Nat) (h : x.heap[b]? = some (arnO 22 64 fun _ => 10)) (i : Nat) (hi : i < 64) => arn_cell h hi
  unfold arnO at hcell
  obtain ⟨V, hV⟩ : ∃ V, arn 64 (oneF 80) = V := ⟨_, rfl⟩
  rw [hV] at C1 C2 q1
  generalize (arn 64 fun _ => 10) = T at C1 C2 HSV HOV HYV hcell
  have HY := Lib.hid hY
  have HCL := Lib.hid hcell
  have HV := Lib.hid hV
  clear hY hcell hV
  go_enter Tryd.func9, Tryd.ntmps9
  go_wp2_with (with_reducible refine wpList_buildTo rfl 22 _ rfl (some 2) rfl (arn 64 (oneF 80)) (by kernel_rfl) ?_; rw [HV.out])
  refine (C1.out _ hp).mono ?_
  rintro e w1 ⟨rfl, hb1⟩
  obtain ⟨w2, hw2⟩ : ∃ w2, w1.alloc (.cells T 22 (0, 0)) = w2 := ⟨_, rfl⟩
  have h2 : w2.heap[w1.heap.size]? = some (.cells T 22 (0, 0)) := by rw [← hw2]; exact heap_alloc_new w1 _
  have hb2 : Below w.heap.size w w2 := by rw [← hw2]; exact hb1.alloc hb1.size _
  have c0 := HCL.out w2 _ h2 0 (by omega)
  have c1 := HCL.out w2 _ h2 63 (by omega)
  have hp2 := hp.below hb2
  have HW2 := Lib.hid hw2
  have HB2 := Lib.hid hb2
  clear hw2 hb1 hb2
  go_wp2_with (first | (with_reducible refine wp_store_fresh rfl 22 _ _ rfl T Y 22 rfl rfl HSV HYV HOV ?_; rw [HW2.out]) | (with_reducible refine wpList_wanted_load ?hw 22 _ rfl w1.heap.size rfl 22 T (0, 0) _ h2 Tryd.underlying22 rfl HSV ?_; (case hw => kernel_rfl)))
  refine (C2.out _ hp2).mono ?_
  rintro e w3 ⟨rfl, hb3⟩
  have hb4 := HB2.out.trans (hb3.mono HB2.out.size)
  clear hb3 hp2 h2 c0 c1 HB2
  go_wp2_with (with_reducible refine wpList_wanted_build ?hw 22 _ rfl (some 15) rfl (arn 64 (oneF 80)) (by kernel_rfl) ?_; (case hw => kernel_rfl); rw [HV.out])
  go_ret
  exact ⟨rfl, hb4⟩

theorem rem_of (i u : Nat) (h : i % 8 = u) : (i : Int).tmod 8 = (u : Int) ∧ (i : Int) % 8 = (u : Int) := by
  rw [Int.tmod_eq_emod_of_nonneg (by omega)]
  omega
theorem quo_of (i v : Nat) (h : i / 8 = v) : (i : Int).tdiv 8 = (v : Int) ∧ (i : Int) / 8 = (v : Int) := by
  rw [Int.tdiv_eq_ediv_of_nonneg (by omega)]
  omega
set_option maxRecDepth 100000 in
set_option maxHeartbeats 2000000 in
theorem ltr_code (f : Nat → Int) (w : World) : Calls Tryd.prog 12 #[.agg (arn 64 f)] w (ArnGives 64 (trB f) w) := by
  obtain ⟨X, hX⟩ : ∃ X, arn 64 f = X := ⟨_, rfl⟩
  obtain ⟨Y, hY⟩ : ∃ Y, arn 64 (fun _ => 0) = Y := ⟨_, rfl⟩
  have hz0 : ∀ w, (zeroValue 22).run Tryd.prog w = .ok (.agg Y) w := by rw [← hY]; exact arr_zero
  have HSY : Y.size = 64 := by rw [← hY]; exact arn_size _ _
  obtain ⟨B, wA, wB, wC, hB, hwA, hwB, hwC, hzA, hzB, hzC, hC0, hC1, hC2, hbC⟩ := laid3 w (.cells X 22 (0, 0)) (.cells Y 22 (0, 0)) (.cells Y 22 (0, 0))
  have hC0 : wC.heap[B]? = some (arnO 22 64 f) := by rw [hC0, ← hX]; rfl
  have hC2 : wC.heap[B + 2]? = some (arnO 22 64 (putS (trB f) 0)) := by rw [hC2, ← hY]; rfl
  rw [hX]
  have HY := Lib.hid hY
  have HWA := Lib.hid hwA
  have HWB := Lib.hid hwB
  have HWC := Lib.hid hwC
  have HB := Lib.hid hB
  clear hX hY hwA hwB hwC hB
  go_enter Tryd.func12, Tryd.ntmps12
  go_wp2
  rw [HWA.out, HB.out, HWB.out, HWC.out]
  go_loopw [4] (fun z wr => ∃ i : Nat, i ≤ 64 ∧ z = .int .i64 i ∧ wr.heap[B]? = some (arnO 22 64 f) ∧ wr.heap[B + 1]? = some (.cells Y 22 (0, 0)) ∧ wr.heap[B + 2]? = some (arnO 22 64 (putS (trB f) i)) ∧ Below B w wr ∧ B + 3 ≤ wr.heap.size) (fun z _ => 64 - (intOf z).toNat)
  case atStart => exact ⟨0, by omega, rfl, hC0, hC1, hC2, hbC, by omega⟩
  case round =>
    clear hC0 hC1 hC2 hbC hzA hzB hzC
    obtain ⟨i, hi64, rfl, h0, h1, h2, hb, hz⟩ := hrel
    by_cases hlt : i < 64
    · have t0 : decide ((i : Int) < 64) = true := by simp; omega
      obtain ⟨u, hu⟩ : ∃ u, i % 8 = u := ⟨_, rfl⟩
      obtain ⟨v, hv⟩ : ∃ v, i / 8 = v := ⟨_, rfl⟩
      obtain ⟨r1, r2⟩ := rem_of i u hu
      obtain ⟨r3, r4⟩ := quo_of i v hv
      have b1 : 8 * u + v < 64 := by omega
      have r9 : IntKind.i64.wrap (v : Int) = (v : Int) := IntWalk.i64_in _ (by omega)
      have S := Lib.hid (show putS (trB f) (i + 1) = setF (putS (trB f) i) i (f (8 * u + v)) by rw [← hu, ← hv]; rfl)
      have c0 := arn_cell h0 b1
      generalize f (8 * u + v) = y at c0 S
      have c2 := arn_cell h2 hlt
      have ff := arn_free (i := i) h2
      generalize putS (trB f) i i = y2 at c2
      have PUT := Lib.hid (fun (w2 : World) (e : wr.setCell ⟨B + 2, i, none⟩ (.int .i64 y) = w2) => (by subst e; exact ⟨heap_set h0 (by simp), heap_set h1 (by simp), by rw [S.out]; exact arn_put y h2, hb.setCell (p := ⟨B + 2, i, none⟩) (by simp) _, by simp [World.setCell]; omega⟩ : w2.heap[B]? = some (arnO 22 64 f) ∧ w2.heap[B + 1]? = some (.cells Y 22 (0, 0)) ∧ w2.heap[B + 2]? = some (arnO 22 64 (putS (trB f) (i + 1))) ∧ Below B w w2 ∧ B + 3 ≤ w2.heap.size))
      clear h0 h1 h2 hb hu hv S
      go_wp2
      generalize hw2 : wr.setCell _ _ = w2
      have F := PUT.out w2 hw2
      clear hw2 PUT c0 c2 ff r1 r2 r3 r4 r9
      go_roundw
      case rel => exact ⟨i + 1, by omega, by go_num, F⟩
      case measure => simp [intOf]; omega
    · obtain rfl : i = 64 := by omega
      have t0 : decide ((64 : Int) < 64) = false := by simp
      obtain ⟨V, hV⟩ : ∃ V, arn 64 (putS (trB f) 64) = V := ⟨_, rfl⟩
      have HV := Lib.hid hV
      have h2' : wr.heap[B + 2]? = some (.cells V 22 (0, 0)) := by rw [← hV]; exact h2
      have HSV : (Tryd.prog.info? 22).map (·.size) = some V.size := by rw [← hV]; exact arr_sized _
      have HOV : V.all (·.oneCell') = true := by rw [← hV]; exact arn_one _ _
      have HYV : Y.size = V.size := by rw [← hV, HSY, arn_size]
      clear hV h2 h0
      go_wp2_with (first | (with_reducible refine wpList_load_row rfl 22 _ rfl (B + 2) rfl 22 V (0, 0) _ h2' Tryd.underlying22 rfl HSV ?_) | (with_reducible refine wp_store_arr rfl 22 _ _ rfl (B + 1) V Y rfl rfl 22 h1 HSV HYV HOV ?_; intro w2 hh2 hg2))
      refine bodyPost_ret (results_cell_row rfl _ _ (B + 1) 22 _ (0, 0) _ rfl hh2 Tryd.underlying22 rfl HSV) rfl ?_
      exact arn_gives (putS_most 64 (trB f)) HV.out (by rw [HB.out]; exact hb.grown hg2 (by omega) (fun k hk => by injection hk with hk; omega))
end Go.Proofs.YtegppidfmjcnoaaDoor
