/- A flat block has nothing but its first number, eight times as great, as far as that goes; a first number alone comes back as a flat block, an eighth of it; noughts are noughts (P14.3); and the chapter's example comes out. Conditions: none but the card's: what the listed variable (package dct's table of weights) holds is tied to the program's text over a pruned copy of the project. -/
import Derived.Test.YtegppidfmjcnoaaDoorCards
import Derived.Test.YtegppidfmjcnoaaDoorTie
import Derived.Test.YtegppidfmjcnoaaDoorDlive
import Derived.Great.BuildSlice
import Derived.Test.YtegppidfmjcnoaaDoorLaws
import Derived.Test.YtegppidfmjcnoaaDoorCalm
import Derived.ProofKit
import Derived.LaidMore
import Derived.OpenShut
import Derived.Lay
import Derived.SizedLaws
import Derived.SevenTiedAt
import Derived.Stop.Joined
namespace Go.Proofs.YtegppidfmjcnoaaDoor
open Go.ChangeShapes Go.WideShapes Go.ChangeAt Go.RowKit
set_option linter.unusedVariables false

theorem nought_to : ∀ p, p < 64 → fwdB (fun _ => 0) p = 0 := fun p hp => (fwd_flat 0 p hp).trans (by unfold flatTo; split <;> rfl)
theorem nought_from : ∀ p, p < 64 → invB (fun _ => 0) p = 0 := fun p hp => (dctK_congr (fun i _ => by unfold oneF; split <;> rfl : ∀ i, i < 64 → (fun _ => (0 : Int)) i = oneF 0 i) p hp).trans (inv_one 0 p hp)
theorem flat_first (n : Int) (h1 : -256 ≤ n) (h2 : n ≤ 255) : flatTo n 0 = 8 * n := by
  unfold flatTo
  rw [if_pos rfl, clip_of n _ _ (by omega) (by omega), clip_of _ _ _ (by omega) (by omega)]
theorem one_near (n : Int) (h1 : -2048 ≤ n) (h2 : n ≤ 2043) : 8 * oneTo n ≤ n + 4 ∧ n - 4 < 8 * oneTo n := by
  unfold oneTo
  rw [clip_of n _ _ (by omega) (by omega), clip_of _ _ _ (by omega) (by omega)]
  omega
theorem one_in (n : Int) : -256 ≤ oneTo n ∧ oneTo n ≤ 255 := ⟨clip_lo _ _ _, clip_hi _ _ _ (by omega)⟩
/-- What the loop over both reads. -/
def FlatAt (n : Int) (R S : Nat) (B : Nat) (w x : World) : Prop := x.heap[R]? = some (arnO 22 64 (flatTo n)) ∧ x.heap[S]? = some (arnO 22 64 fun _ => oneTo n) ∧ Below B w x ∧ R < x.heap.size ∧ S < x.heap.size
theorem FlatAt.below {n : Int} {R S B : Nat} {w x y : World} (h : FlatAt n R S B w x) (hB : B ≤ x.heap.size) (hy : Below x.heap.size x y) : FlatAt n R S B w y :=
  ⟨(hy.block R h.2.2.2.1).trans h.1, (hy.block S h.2.2.2.2).trans h.2.1, h.2.2.1.trans (hy.mono hB), Nat.lt_of_lt_of_le h.2.2.2.1 hy.size, Nat.lt_of_lt_of_le h.2.2.2.2 hy.size⟩
set_option maxRecDepth 100000 in
set_option maxHeartbeats 4000000 in
theorem dctFlat_walk (n : Int) (w : World) (wn : (Lit.int .i64 n).wf = true) (hp : HasDct w) :
    Calls Tryd.prog 6 #[.int .i64 n] w fun e w' => e = .returned (.bool true) ∧ Below w.heap.size w w' := by
  obtain ⟨n1, n2⟩ := i64_most wn
  obtain ⟨Y, hY⟩ : ∃ Y, arn 64 (fun _ => 0) = Y := ⟨_, rfl⟩
  have hza : ∀ w, (zeroValue 22).run Tryd.prog w = .ok (.agg Y) w := by rw [← hY]; exact arr_zero
  obtain ⟨B, hB⟩ : ∃ B, w.heap.size = B := ⟨_, rfl⟩
  obtain ⟨wA, hwA⟩ : ∃ wA, w.alloc (.cells Y 22 (0, 0)) = wA := ⟨_, rfl⟩
  have hzA : wA.heap.size = B + 1 := by rw [← hwA, ← hB]; simp
  have hA0 : wA.heap[B]? = some (arnO 22 64 (putS (fun _ => n) 0)) := by rw [← hwA, ← hB, ← hY]; exact heap_alloc_new w _
  have hbA : Below B w wA := by rw [← hwA, ← hB]; exact (Below.refl _ w).alloc (Nat.le_refl _) _
  have HP := Lib.hid (fun (x : World) (hx : Below B w x) => hp.below (by rw [hB]; exact hx))
  have C1 := Lib.hid (fun x hx => forward_at (fwd_flat n) x hx)
  have C2 := Lib.hid (fun x hx => inverse_at (inv_one n) x hx)
  have C3 := Lib.hid (fun x hx => forward_at nought_to x hx)
  have C4 := Lib.hid (fun x hx => inverse_at nought_from x hx)
  have C5 := Lib.hid (fun x hx => lives14 x hx)
  have q1 := arn_equal fun _ => 0
  have HWA := Lib.hid hwA
  have HB := Lib.hid hB
  have HY := Lib.hid hY
  clear hY hB hwA hp wn
  go_enter Tryd.func6, Tryd.ntmps6
  go_wp2
  rw [HWA.out, HB.out]
  go_loopw [4] (fun z wr => ∃ i : Nat, i ≤ 64 ∧ z = .int .i64 i ∧ wr.heap[B]? = some (arnO 22 64 (putS (fun _ => n) i)) ∧ Below B w wr ∧ B + 1 ≤ wr.heap.size) (fun z _ => 64 - (intOf z).toNat)
  case atStart => exact ⟨0, by omega, rfl, hA0, hbA, by omega⟩
  case round =>
    clear hA0 hbA hzA
    obtain ⟨i, hi64, rfl, h0, hb, hz⟩ := hrel
    by_cases hlt : i < 64
    · have t0 : decide ((i : Int) < 64) = true := by simp; omega
      have S := Lib.hid (show putS (fun _ => n) (i + 1) = setF (putS (fun _ => n) i) i n from rfl)
      have c0 := arn_cell h0 hlt
      have ff := arn_free (i := i) h0
      generalize putS (fun _ => n) i i = y at c0
      have PUT := Lib.hid (fun (w2 : World) (e : wr.setCell ⟨B, i, none⟩ (.int .i64 n) = w2) => (by subst e; exact ⟨by rw [S.out]; exact arn_put n h0, hb.setCell (p := ⟨B, i, none⟩) (by simp) _, by simpa [World.setCell] using hz⟩ : w2.heap[B]? = some (arnO 22 64 (putS (fun _ => n) (i + 1))) ∧ Below B w w2 ∧ B + 1 ≤ w2.heap.size))
      clear h0 hb S
      go_wp2
      generalize hw2 : wr.setCell _ _ = w2
      have F := PUT.out w2 hw2
      clear hw2 PUT c0 ff
      go_roundw
      case rel => exact ⟨i + 1, by omega, by go_num, F⟩
      case measure => simp [intOf]; omega
    · obtain rfl : i = 64 := by omega
      have t0 : decide ((64 : Int) < 64) = false := by simp
      obtain ⟨T, hT⟩ : ∃ T, arn 64 (fun _ => n) = T := ⟨_, rfl⟩
      obtain ⟨O, hO⟩ : ∃ O, arn 64 (oneF n) = O := ⟨_, rfl⟩
      obtain ⟨V, hV⟩ : ∃ V, arn 64 (flatTo n) = V := ⟨_, rfl⟩
      obtain ⟨U, hU⟩ : ∃ U, (arn 64 fun _ => oneTo n) = U := ⟨_, rfl⟩
      have h0' : wr.heap[B]? = some (.cells T 22 (0, 0)) := by
        rw [h0, ← hT]
        unfold arnO
        rw [arn_congr (putS_most 64 fun _ => n)]
      have HST : (Tryd.prog.info? 22).map (·.size) = some T.size := by rw [← hT]; exact arr_sized _
      have HSV : (Tryd.prog.info? 22).map (·.size) = some V.size := by rw [← hV]; exact arr_sized _
      have HSU : (Tryd.prog.info? 22).map (·.size) = some U.size := by rw [← hU]; exact arr_sized _
      have HOV : V.all (·.oneCell') = true := by rw [← hV]; exact arn_one _ _
      have HOU : U.all (·.oneCell') = true := by rw [← hU]; exact arn_one _ _
      have HYV : Y.size = V.size := by rw [← HY.out, ← hV, arn_size, arn_size]
      have HYU : Y.size = U.size := by rw [← HY.out, ← hU, arn_size, arn_size]
      rw [hT, hV] at C1
      rw [hO, hU] at C2
      have HO := Lib.hid hO
      have HV := Lib.hid hV
      have HU := Lib.hid hU
      clear h0 hT hO hV hU
      go_wp2_with (with_reducible refine wpList_load_row rfl 22 _ rfl B rfl 22 T (0, 0) _ h0' Tryd.underlying22 rfl HST ?_)
      refine (C1.out _ (HP.out _ hb)).mono ?_
      rintro e w1 ⟨rfl, hb1⟩
      have hw1 := hb.trans (hb1.mono (by omega))
      have hz1 : B + 1 ≤ w1.heap.size := Nat.le_trans hz hb1.size
      clear hb1 hb h0' C1
      go_wp2_with (with_reducible refine wpList_buildTo rfl 22 _ rfl (some 18) rfl (arn 64 (oneF n)) (by kernel_rfl) ?_; rw [HO.out])
      refine (C2.out _ (HP.out _ hw1)).mono ?_
      rintro e w2 ⟨rfl, hb2⟩
      have hw2 := hw1.trans (hb2.mono (by omega))
      have hz2 : B + 1 ≤ w2.heap.size := Nat.le_trans hz1 hb2.size
      clear hb2 hw1 hz1 C2
      obtain ⟨R, w3, w4, hR, hw3, hw4, hz3, hz4, k3, k4, hb4⟩ := laid2 w2 (.cells Y 22 (0, 0)) (.cells Y 22 (0, 0))
      have hx4 : Below B w w4 := hw2.trans (hb4.mono (by omega))
      have KD := Lib.hid (fun (x : World) (hx : w4.grownBy x (some R)) => (⟨(hx.block (R + 1) (by omega) (by intro e; injection e with e; omega)).trans k4, hx4.grown hx (by omega) (fun k hk => by injection hk with hk; omega), by have := hx.size; omega⟩ : x.heap[R + 1]? = some (.cells Y 22 (0, 0)) ∧ Below B w x ∧ R + 2 ≤ x.heap.size))
      have KH := Lib.hid (fun (x : World) (hx : w4.grownBy x (some R)) => (KD.out x hx).1)
      have HR := Lib.hid hR
      have HW3 := Lib.hid hw3
      have HW4 := Lib.hid hw4
      have HZ3 := Lib.hid hz3
      have hBR : B + 1 ≤ R := by omega
      clear hR hw3 hw4 hz4 hz3 k4 hb4 hx4 hw2 hz2
      go_wp2_with (first | (rw [HR.out, HW3.out, HW4.out]; with_reducible refine wp_store_arr rfl 22 _ _ rfl R V Y rfl rfl 22 k3 HSV HYV HOV ?_; intro w5 hh5 hg5) | (with_reducible refine wp_store_arr rfl 22 _ _ rfl (R + 1) U Y rfl rfl 22 (KH.out _ hg5) HSU HYU HOU ?_; intro w6 hh6 hg6))
      have hF0 : FlatAt n R (R + 1) B w w6 := by
        obtain ⟨d1, d2, d3⟩ := KD.out _ hg5
        refine ⟨?_, ?_, d2.grown hg6 (by omega) (fun k hk => by injection hk with hk; omega), by have := hg6.size; omega, by have := hg6.size; omega⟩
        · refine (hg6.block R (by omega) (by intro e; injection e with e; omega)).trans (hh5.trans ?_)
          unfold arnO
          rw [HV.out]
        · refine hh6.trans ?_
          unfold arnO
          rw [HU.out]
      have HF0 := Lib.hid hF0
      clear hF0 hh5 hg5 hh6 hg6 KD KH k3 HR HW3 HW4 HZ3 HYV HYU HSV HSU HST HOV HOU HO HV HU
      go_loopw [7] (fun z wr => ∃ i : Nat, 1 ≤ i ∧ i ≤ 64 ∧ z = .int .i64 i ∧ Hid (FlatAt n R (R + 1) B w wr)) (fun z _ => 64 - (intOf z).toNat)
      case atStart => exact ⟨1, by omega, by omega, rfl, HF0⟩
      case round =>
        clear HF0
        obtain ⟨i, hi1, hi64, rfl, hF⟩ := hrel
        have hBS : B ≤ wr.heap.size := by have := hF.out.2.2.2.1; omega
        by_cases hli : i < 64
        · have t1 : decide ((i : Int) < 64) = true := by simp; omega
          have K1 := Lib.hid (fun (x2 : World) (hx2 : Below wr.heap.size wr x2) => (hF.out.below hBS hx2))
          have K2 := Lib.hid (fun (x2 : World) (hx2 : Below wr.heap.size wr x2) => ((arn_cell (K1.out x2 hx2).1 hli).trans (by unfold flatTo; rw [if_neg (by omega)]) : x2.cell? ⟨R, i, none⟩ = some (.int .i64 0)))
          have K3 := Lib.hid (fun (x2 : World) (hx2 : Below wr.heap.size wr x2) => (arn_cell (K1.out x2 hx2).2.1 hli : x2.cell? ⟨R + 1, i, none⟩ = some (.int .i64 (oneTo n))))
          have K4 := Lib.hid (fun (x2 : World) (hx2 : Below wr.heap.size wr x2) => (arn_cell (K1.out x2 hx2).2.1 (show 0 < 64 by omega) : x2.cell? ⟨R + 1, 0, none⟩ = some (.int .i64 (oneTo n))))
          have tq : (oneTo n != oneTo n) = false := by simp
          have HK := Lib.hid hF
          clear hF
          generalize oneTo n = z at K3 K4 tq
          go_wp2
          refine wp_region_calm (S := fun x => Below wr.heap.size wr x) 12 (by kernel_rfl) (by kernel_rfl) (Below.refl _ _).drew ?_
          simp only [List.take_succ_cons, List.take_zero, List.drop_succ_cons, List.drop_zero]
          refine calm_value (v := ?v0) (by kernel_rfl) ?m ?_; (case m => (intro x _; go_simp; try with_reducible rfl))
          simp only [Act.put, List.setIfInBounds_toArray, List.set_cons_zero, List.set_cons_succ]
          refine calm_value (v := ?v1) (by kernel_rfl) ?m ?_; (case m => (intro x _; go_simp; rw [if_pos (by omega)]))
          simp only [Act.put, List.setIfInBounds_toArray, List.set_cons_zero, List.set_cons_succ]
          refine calm_cell 3 _ ⟨R, i, none⟩ (.int .i64 0) (by kernel_rfl) rfl rfl (fun x hx => by have c0 := K2.out x hx; go_simp) ?_
          simp only [Act.put, List.setIfInBounds_toArray, List.set_cons_zero, List.set_cons_succ]
          refine calm_value (v := ?v3) (by kernel_rfl) ?m ?_; (case m => (intro x _; go_simp; try with_reducible rfl))
          simp only [Act.put, List.setIfInBounds_toArray, List.set_cons_zero, List.set_cons_succ]
          refine calm_value (v := ?v4) (by kernel_rfl) ?m ?_; (case m => (intro x _; go_simp; try with_reducible rfl))
          simp only [Act.put, List.setIfInBounds_toArray, List.set_cons_zero, List.set_cons_succ]
          refine calm_value (v := ?v5) (by kernel_rfl) ?m ?_; (case m => (intro x _; go_simp; try with_reducible rfl))
          simp only [Act.put, List.setIfInBounds_toArray, List.set_cons_zero, List.set_cons_succ]
          refine calm_value (v := ?v6) (by kernel_rfl) ?m ?_; (case m => (intro x _; go_simp; rw [if_pos (by omega)]))
          simp only [Act.put, List.setIfInBounds_toArray, List.set_cons_zero, List.set_cons_succ]
          refine calm_cell 3 _ ⟨R + 1, i, none⟩ (.int .i64 z) (by kernel_rfl) rfl rfl (fun x hx => by have c0 := K3.out x hx; go_simp) ?_
          simp only [Act.put, List.setIfInBounds_toArray, List.set_cons_zero, List.set_cons_succ]
          refine calm_value (v := ?v8) (by kernel_rfl) ?m ?_; (case m => (intro x _; go_simp; try with_reducible rfl))
          simp only [Act.put, List.setIfInBounds_toArray, List.set_cons_zero, List.set_cons_succ]
          refine calm_cell 3 _ ⟨R + 1, 0, none⟩ (.int .i64 z) (by kernel_rfl) rfl rfl (fun x hx => by have c0 := K4.out x hx; go_simp) ?_
          simp only [Act.put, List.setIfInBounds_toArray, List.set_cons_zero, List.set_cons_succ]
          refine calm_value (v := ?v10) (by kernel_rfl) ?m ?_; (case m => (intro x _; go_simp; try with_reducible rfl))
          simp only [Act.put, List.setIfInBounds_toArray, List.set_cons_zero, List.set_cons_succ]
          refine calm_value (v := ?v11) (by kernel_rfl) ?m ?_; (case m => (intro x _; go_simp; try with_reducible rfl))
          simp only [Act.put, List.setIfInBounds_toArray, List.set_cons_zero, List.set_cons_succ]
          refine calm_nil fun x2 hx2 => ?_
          have hF2 := Lib.hid (K1.out x2 hx2)
          clear hx2 K1 K2 K3 K4 HK tq
          go_wp2
          go_roundw
          case rel => exact ⟨i + 1, by omega, by omega, by go_num, hF2⟩
          case measure => simp [intOf]; omega
        · obtain rfl : i = 64 := by omega
          have t1 : decide ((64 : Int) < 64) = false := by simp
          have ca := arn_cell hF.out.1 (show 0 < 64 by omega)
          have cb := arn_cell hF.out.2.1 (show 0 < 64 by omega)
          have hw : Below B w wr := hF.out.2.2.1
          have f1 := flat_first n
          have f2 := one_near n
          have f3 := one_in n
          generalize flatTo n 0 = y at ca f1
          generalize oneTo n = z at cb f2 f3
          clear hF hi1 hi64
          rw [HY.out] at C3 C4 q1
          by_cases g1 : -2048 ≤ n
          · by_cases g2 : n ≤ 2043
            · have f4 := f2 g1 g2
              clear f2
              by_cases g3 : -256 ≤ n
              · by_cases g4 : n ≤ 255
                · obtain rfl := f1 g3 g4
                  clear f1
                  go_wp2_with fail
                  refine (C3.out _ (HP.out _ hw)).mono ?_
                  rintro e w7 ⟨rfl, hb7⟩
                  have hw7 := hw.trans (hb7.mono hBS)
                  have hB7 : B ≤ w7.heap.size := Nat.le_trans hBS hb7.size
                  clear hb7 ca cb
                  go_wp2_with fail
                  refine (C4.out _ (HP.out _ hw7)).mono ?_
                  rintro e w8 ⟨rfl, hb8⟩
                  have hw8 := hw7.trans (hb8.mono hB7)
                  have hB8 : B ≤ w8.heap.size := Nat.le_trans hB7 hb8.size
                  clear hb8
                  go_wp2_with fail
                  refine (C5.out _ (HP.out _ hw8)).mono ?_
                  rintro e w9 ⟨rfl, hb9⟩
                  have hw9 := hw8.trans (hb9.mono hB8)
                  clear hb9
                  go_wp2
                  go_ret
                  exact ⟨rfl, by rw [HB.out]; exact hw9⟩
                · clear f1
                  go_wp2_with fail
                  refine (C3.out _ (HP.out _ hw)).mono ?_
                  rintro e w7 ⟨rfl, hb7⟩
                  have hw7 := hw.trans (hb7.mono hBS)
                  have hB7 : B ≤ w7.heap.size := Nat.le_trans hBS hb7.size
                  clear hb7 ca cb
                  go_wp2_with fail
                  refine (C4.out _ (HP.out _ hw7)).mono ?_
                  rintro e w8 ⟨rfl, hb8⟩
                  have hw8 := hw7.trans (hb8.mono hB7)
                  have hB8 : B ≤ w8.heap.size := Nat.le_trans hB7 hb8.size
                  clear hb8
                  go_wp2_with fail
                  refine (C5.out _ (HP.out _ hw8)).mono ?_
                  rintro e w9 ⟨rfl, hb9⟩
                  have hw9 := hw8.trans (hb9.mono hB8)
                  clear hb9
                  go_wp2
                  go_ret
                  exact ⟨rfl, by rw [HB.out]; exact hw9⟩
              · clear f1
                go_wp2_with fail
                refine (C3.out _ (HP.out _ hw)).mono ?_
                rintro e w7 ⟨rfl, hb7⟩
                have hw7 := hw.trans (hb7.mono hBS)
                have hB7 : B ≤ w7.heap.size := Nat.le_trans hBS hb7.size
                clear hb7 ca cb
                go_wp2_with fail
                refine (C4.out _ (HP.out _ hw7)).mono ?_
                rintro e w8 ⟨rfl, hb8⟩
                have hw8 := hw7.trans (hb8.mono hB7)
                have hB8 : B ≤ w8.heap.size := Nat.le_trans hB7 hb8.size
                clear hb8
                go_wp2_with fail
                refine (C5.out _ (HP.out _ hw8)).mono ?_
                rintro e w9 ⟨rfl, hb9⟩
                have hw9 := hw8.trans (hb9.mono hB8)
                clear hb9
                go_wp2
                go_ret
                exact ⟨rfl, by rw [HB.out]; exact hw9⟩
            · clear f1 f2
              go_wp2_with fail
              refine (C3.out _ (HP.out _ hw)).mono ?_
              rintro e w7 ⟨rfl, hb7⟩
              have hw7 := hw.trans (hb7.mono hBS)
              have hB7 : B ≤ w7.heap.size := Nat.le_trans hBS hb7.size
              clear hb7 ca cb
              go_wp2_with fail
              refine (C4.out _ (HP.out _ hw7)).mono ?_
              rintro e w8 ⟨rfl, hb8⟩
              have hw8 := hw7.trans (hb8.mono hB7)
              have hB8 : B ≤ w8.heap.size := Nat.le_trans hB7 hb8.size
              clear hb8
              go_wp2_with fail
              refine (C5.out _ (HP.out _ hw8)).mono ?_
              rintro e w9 ⟨rfl, hb9⟩
              have hw9 := hw8.trans (hb9.mono hB8)
              clear hb9
              go_wp2
              go_ret
              exact ⟨rfl, by rw [HB.out]; exact hw9⟩
          · clear f1 f2
            go_wp2_with fail
            refine (C3.out _ (HP.out _ hw)).mono ?_
            rintro e w7 ⟨rfl, hb7⟩
            have hw7 := hw.trans (hb7.mono hBS)
            have hB7 : B ≤ w7.heap.size := Nat.le_trans hBS hb7.size
            clear hb7 ca cb
            go_wp2_with fail
            refine (C4.out _ (HP.out _ hw7)).mono ?_
            rintro e w8 ⟨rfl, hb8⟩
            have hw8 := hw7.trans (hb8.mono hB7)
            have hB8 : B ≤ w8.heap.size := Nat.le_trans hB7 hb8.size
            clear hb8
            go_wp2_with fail
            refine (C5.out _ (HP.out _ hw8)).mono ?_
            rintro e w9 ⟨rfl, hb9⟩
            have hw9 := hw8.trans (hb9.mono hB8)
            clear hb9
            go_wp2
            go_ret
            exact ⟨rfl, by rw [HB.out]; exact hw9⟩
theorem dctFlat_own : ownKnob Tryd.prog.godebug = none := by kernel_rfl
theorem dctFlat_laid : laidOutB Tryd.prog = true := by kernel_rfl
theorem dctFlat_reads : Tryd.f6.params.toList.all (fun t => Tryd.prog.readableRec t && decide (t < Tryd.prog.types.size)) = true := by kernel_rfl

set_option maxRecDepth 100000 in
theorem dctFlat_lifted (os : Os) (started : os.Started) (H : Type) (enc : TypeId × Value → H) :
    ReturnsInHanded {} Tryd.checked os 6 .any (fun w args => (Rows.dctFlatSpec.pre enc Tryd.prog Tryd.f6 Rows.dctFlatRow.domain false w args ∧ laidMetH Tryd.prog Rows.dctFlatRow.laid w) ∧ sizedMet enc Tryd.prog Tryd.f6 (OpenSpec.ofChange Rows.dctFlatSpec) false w args)
      (Rows.dctFlatSpec.post enc Tryd.prog Tryd.f6 false true false false) := by
  refine returnsInHanded_of_change_and (C := Tryd.checked) (X := fun w _ => laidMetH Tryd.prog Rows.dctFlatRow.laid w) (fun _ _ _ hh h => h.of_heap hh) dctFlat_own started (by kernel_rfl) Tryd.func6
    (ChangeSpec.witness_shaped (enc := enc) (C := Tryd.checked) (os := os) (X := fun w _ => laidMetH Tryd.prog Rows.dctFlatRow.laid w) false (World.laidAll Tryd.prog os Rows.dctFlatRow.laid) #[.int .i64 0] 8 (World.laidAll_os _ _ _)
      (World.shaped_of_ZipB (by kernel_rfl) (by kernel_rfl)) (by kernel_rfl) (by kernel_rfl) (by kernel_rfl)
      (by rw [MakeChecks.laidMetH_plain _ _ _ (by kernel_rfl)]; exact laidMet_laidAll _ (by kernel_rfl) (by kernel_rfl))) ?_
  intro W base args ds gs before hval0 hW _ hsz0 hL _
  have hval : ∀ (j : Nat) t v, Tryd.f6.params[j]? = some t → args[j]? = some v → Value.okWide Tryd.prog W .any base t v := hval0
  have hW' := hW
  obtain ⟨p, q, hA0, hV, rfl, hfz, hnd⟩ := hW
  have hA : DataW.TrodAll enc Tryd.prog W 0 (fun _ => true) true Tryd.f6.params.toList args.toList ds p := hA0
  rw [Tryd.params6] at hA hval
  obtain ⟨v0, vs0, d0, ds0, p0, q0, hargs, rfl, rfl, h0, r0⟩ := trodAll_cons hA
  obtain ⟨rfl, rfl, rfl⟩ := trodAll_nil r0
  obtain rfl : args = #[v0] := by cases args; simp_all
  obtain ⟨rfl, rfl⟩ := trodVars_none hV
  obtain ⟨a0, rfl, rfl, rfl, w0⟩ := open_int Tryd.underlying3 (hval 0 3 v0 rfl rfl) h0
  clear hA0 hval0
  refine (dctFlat_walk a0 W w0 (dct_laid hL ⟨by simp [Rows.dctFlatRow], by kernel_rfl⟩)).mono fun e W' ⟨he, hb⟩ => ?_
  subst he
  exact ⟨_, rfl, law_end dctFlat_laid dctFlat_reads rfl Tryd.underlying4 rfl hW' rfl hb⟩

theorem dctFlat_over : Rows.dctFlatRow.holds Tryd.pinned (OpenSpec.ofChange Rows.dctFlatSpec) :=
  OpenClaim.holds_of_wide 6 Tryd.f6 rfl rfl rfl rfl rfl rfl rfl ⟨rfl, rfl, rfl, rfl, rfl⟩ rfl rfl rfl rfl rfl (by kernel_rfl) Tryd.func6 (by kernel_rfl)
    (of_decide_eq_true (by kernel_rfl)) (by unfold Func.isWrapper; first | (rw [if_pos (by decide +kernel)]; kernel_rfl) | (rw [if_neg (by decide +kernel)]; exact ⟨rfl, rfl⟩))
    (fun os started H enc _ => dctFlat_lifted os started H enc)

theorem dctFlat_holds : Rows.DctFlatCardSaid :=
  Claim7.holds_tied_plain_at .later [] [.data] true Rows.dctFlatCard.stood.harness false dctFlat_over (fun _ h => by cases h) (by kernel_rfl) (fun _ h => by cases h) dctFlat_row_tie rfl ⟨rfl, rfl⟩ (by kernel_rfl) rfl
    (fun f fn hf hfn => by
      obtain rfl : f = 6 := Option.some.inj ((show Tryd.prog.funcNamed "overspill/overspilllaw14.DctFlat" = some 6 by kernel_rfl).symm.trans hf) |>.symm
      obtain rfl : fn = Tryd.f6 := (Option.some.inj (Tryd.func6.symm.trans hfn)).symm
      exact ⟨by kernel_rfl, fun j t ht => by
        rw [Tryd.params6] at ht
        have hm : t ∈ [3] := by simpa using Array.mem_of_getElem? ht
        have hall : ([3].all fun u => !Tryd.prog.wantsStandIn u) = true := by kernel_rfl
        exact (show Tryd.prog.wantsStandIn t = false by simpa using List.all_eq_true.1 hall t hm)⟩)
    (by kernel_rfl)
#print axioms dctFlat_holds
end Go.Proofs.YtegppidfmjcnoaaDoor
