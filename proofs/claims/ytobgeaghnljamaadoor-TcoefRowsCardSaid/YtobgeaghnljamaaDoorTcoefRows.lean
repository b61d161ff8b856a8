/- Whether any event is right, and its row, is what the document's own answers say; and the chapter's examples come out. Conditions: none but the card's: what the listed variables hold when the call begins, tied to the program's text. -/
import Derived.Test.YtobgeaghnljamaaDoorCards
import Derived.Test.YtobgeaghnljamaaDoorTie
import Derived.Test.YtobgeaghnljamaaDoorLives9
import Derived.Test.YtobgeaghnljamaaDoorErow
import Derived.Test.YtobgeaghnljamaaDoorLaws
import Derived.Test.YtobgeaghnljamaaDoorBack
import Derived.RegionTactic
import Derived.Deep.RegionWith
import Derived.Deep.CutRange
import Derived.Deep.DeepCutAuto
import Derived.ProofKit
import Derived.LaidMore
import Derived.OpenShut
import Derived.Lay
import Derived.SizedLaws
import Derived.SevenTiedAt
import Derived.Stop.Joined
namespace Go.Proofs.YtobgeaghnljamaaDoor
open Go.ChangeShapes Go.WideShapes Go.ChangeAt Go.RowKit
set_option linter.unusedVariables false

set_option maxRecDepth 100000 in
set_option maxHeartbeats 1000000 in
theorem tcoefRows_walk (l : Bool) (a b : Int) (w : World) (_ : (Lit.int .i64 a).wf = true) (_ : (Lit.int .i64 b).wf = true) (hp : HasT w) :
    Calls Tryd.prog 3 #[.agg #[.bool l, .int .i64 a, .int .i64 b]] w fun e w' => e = .returned (.bool true) ∧ Below w.heap.size w w' := by
  have hro := fun x hx => erow_code l a b x hx
  have hre := fun x => errow_page l a b x
  have hri := fun x => right_code l a b x
  have hrj := fun x => right_page l a b x
  obtain ⟨B, hB⟩ : ∃ B, w.heap.size = B := ⟨_, rfl⟩
  obtain ⟨wA, hwA⟩ : ∃ wA, w.alloc (.cells #[.bool l, .int .i64 a, .int .i64 b] 23 (0, 0)) = wA := ⟨_, rfl⟩
  have hzA : wA.heap.size = B + 1 := by rw [← hwA, ← hB]; simp
  have hbA : Below B w wA := by rw [← hwA, ← hB]; exact (Below.refl _ w).alloc (Nat.le_refl _) _
  have hhA : wA.heap[B]? = some (evObj l a b) := by rw [← hwA, ← hB]; exact heap_alloc_new w _
  have HX := Lib.hid (fun (x : World) (hx : Below (B + 1) wA x) => ((hx.block B (by omega)).trans hhA : x.heap[B]? = some (evObj l a b)))
  have HP := Lib.hid (fun (x : World) (hx : Below (B + 1) wA x) => (hp.below (by rw [hB]; exact hbA.trans (hx.mono (by omega))) : HasT x))
  have HBX := Lib.hid (fun (x : World) (hx : Below (B + 1) wA x) => (hbA.trans (hx.mono (by omega)) : Below B w x))
  have hb0 : Below (B + 1) wA wA := Below.refl _ _
  have hz0 : B + 1 ≤ wA.heap.size := by omega
  obtain ⟨r, hr⟩ : ∃ r, eventAt l a b = r := ⟨_, rfl⟩
  obtain ⟨rt, hrt⟩ : ∃ rt, rightT a b = rt := ⟨_, rfl⟩
  rw [hr] at hro hre
  rw [hrt] at hri hrj
  have E := Lib.toList_data r
  have HB := Lib.hid hB
  have HWA := Lib.hid hwA
  cases he : r.toList.isEmpty with
  | true =>
    have e2 : r.toList = [] := by simpa using he
    have F := Lib.hid (show r.data.toList.isEmpty = true by rw [← E]; exact he)
    clear hr hrt E hB hwA hzA hbA hhA hp
    rw [F.out] at hro
    go_enter Tryd.func3, Tryd.ntmps3
    go_wp2_with fail
    rw [HWA.out, HB.out]
    refine (hro _ (HP.out _ hb0)).mono ?_
    rintro e w1 ⟨rfl, hb1⟩
    have hb2 := hb0.trans (hb1.mono hz0)
    have hz2 := hb2.size
    obtain ⟨c0, c1, c2, _, _, _⟩ := ev_cells (HX.out _ hb2)
    go_wp2_with fail
    refine (hre _).mono ?_
    rintro e w2 ⟨rfl, hb3⟩
    have hb4 := hb2.trans (hb3.mono (Nat.le_trans hz0 hz2))
    have hz4 := hb4.size
    clear c0 c1 c2
    obtain ⟨c0, c1, c2, _, _, _⟩ := ev_cells (HX.out _ hb4)
    clear hb1 hb2 hb3 hz2
    go_wp2_with fail
    have hb4d : Below (B + 1) wA w2.drew := hb4.drew
    have hz4d : B + 1 ≤ w2.drew.heap.size := Nat.le_trans hz0 hz4
    have a0 : w2.drew.cell? ⟨B, 0, none⟩ = some (.bool l) := c0
    have a1 : w2.drew.cell? ⟨B, 1, none⟩ = some (.int .i64 a) := c1
    have a2 : w2.drew.cell? ⟨B, 2, none⟩ = some (.int .i64 b) := c2
    have hrr : (rt == rt) = true := beq_self_eq_true rt
    clear c0 c1 c2
    refine wp_region_any (by kernel_rfl) ?_
    change wpAny _ _ _ _ _ _ _ (World.drew _)
    refine wpAny_ready (rs := [0,2]) (by kernel_rfl) (by simp) ?_
    refine AllReady.cons rfl (fun K hK => ?_) (AllReady.cons rfl (fun K hK => ?_) AllReady.nil)
    · go_simp
      refine hK _ _ ?_; clear hK K
      refine wpAny_ready (rs := [1,2]) (by kernel_rfl) (by simp) ?_
      refine AllReady.cons rfl (fun K hK => ?_) (AllReady.cons rfl (fun K hK => ?_) AllReady.nil)
      · go_simp
        go_wp2_with (go_at_call 8; refine (hri _).mono ?_; rintro e w3 ⟨rfl, hb5⟩)
        have hb6 := hb4d.trans (hb5.mono hz4d)
        have hz6 := Nat.le_trans hz4d hb5.size
        obtain ⟨d0, d1, d2, _, _, _⟩ := ev_cells (HX.out _ hb6)
        refine wpAny_ready (rs := [2]) (by kernel_rfl) (by simp) ?_
        refine AllReady.cons rfl (fun K hK => ?_) AllReady.nil
        go_simp
        refine hK _ _ ?_; clear hK K
        refine wpAny_ready (rs := [3]) (by kernel_rfl) (by simp) ?_
        refine AllReady.cons rfl (fun K hK => ?_) AllReady.nil
        go_simp
        go_wp2_with (go_at_call 9; refine (hrj _).mono ?_; rintro e w4 ⟨rfl, hb7⟩)
        have hb8 := hb6.trans (hb7.mono hz6)
        have hz8 := Nat.le_trans hz6 hb7.size
        refine wpAny_mid 4 17 (head_set (head_set (head_set (head_set (head_none 17) (by kernel_rfl) (by decide)) (by kernel_rfl) (by decide)) (by kernel_rfl) (by decide)) (by kernel_rfl) (by decide)) (by kernel_rfl) (by decide) (by decide) (by kernel_rfl) (by kernel_rfl) (by kernel_rfl) rfl ?_
        simp only [List.take_succ_cons, List.take_zero, List.drop_succ_cons, List.drop_zero]
        iterate 13 still_step
        refine wpStill_nil ?_
        change wpList _ _ _ _ _ w4
        go_wp2_with (go_at_call 10; refine (lives9 _ (HP.out _ hb8)).mono ?_; rintro e w5 ⟨rfl, hb9⟩)
        go_ret
        exact ⟨rfl, by rw [HB.out]; exact (HBX.out _ hb8).trans (hb9.mono (by omega))⟩
      · go_simp
        refine hK _ _ ?_; clear hK K
        refine wpAny_ready (rs := [1]) (by kernel_rfl) (by simp) ?_
        refine AllReady.cons rfl (fun K hK => ?_) AllReady.nil
        go_simp
        go_wp2_with (go_at_call 8; refine (hri _).mono ?_; rintro e w3 ⟨rfl, hb5⟩)
        have hb6 := hb4d.trans (hb5.mono hz4d)
        have hz6 := Nat.le_trans hz4d hb5.size
        obtain ⟨d0, d1, d2, _, _, _⟩ := ev_cells (HX.out _ hb6)
        refine wpAny_ready (rs := [3]) (by kernel_rfl) (by simp) ?_
        refine AllReady.cons rfl (fun K hK => ?_) AllReady.nil
        go_simp
        go_wp2_with (go_at_call 9; refine (hrj _).mono ?_; rintro e w4 ⟨rfl, hb7⟩)
        have hb8 := hb6.trans (hb7.mono hz6)
        have hz8 := Nat.le_trans hz6 hb7.size
        refine wpAny_mid 4 17 (head_set (head_set (head_set (head_set (head_none 17) (by kernel_rfl) (by decide)) (by kernel_rfl) (by decide)) (by kernel_rfl) (by decide)) (by kernel_rfl) (by decide)) (by kernel_rfl) (by decide) (by decide) (by kernel_rfl) (by kernel_rfl) (by kernel_rfl) rfl ?_
        simp only [List.take_succ_cons, List.take_zero, List.drop_succ_cons, List.drop_zero]
        iterate 13 still_step
        refine wpStill_nil ?_
        change wpList _ _ _ _ _ w4
        go_wp2_with (go_at_call 10; refine (lives9 _ (HP.out _ hb8)).mono ?_; rintro e w5 ⟨rfl, hb9⟩)
        go_ret
        exact ⟨rfl, by rw [HB.out]; exact (HBX.out _ hb8).trans (hb9.mono (by omega))⟩
    · go_simp
      refine hK _ _ ?_; clear hK K
      refine wpAny_ready (rs := [0]) (by kernel_rfl) (by simp) ?_
      refine AllReady.cons rfl (fun K hK => ?_) AllReady.nil
      go_simp
      refine hK _ _ ?_; clear hK K
      refine wpAny_ready (rs := [1]) (by kernel_rfl) (by simp) ?_
      refine AllReady.cons rfl (fun K hK => ?_) AllReady.nil
      go_simp
      go_wp2_with (go_at_call 8; refine (hri _).mono ?_; rintro e w3 ⟨rfl, hb5⟩)
      have hb6 := hb4d.trans (hb5.mono hz4d)
      have hz6 := Nat.le_trans hz4d hb5.size
      obtain ⟨d0, d1, d2, _, _, _⟩ := ev_cells (HX.out _ hb6)
      refine wpAny_ready (rs := [3]) (by kernel_rfl) (by simp) ?_
      refine AllReady.cons rfl (fun K hK => ?_) AllReady.nil
      go_simp
      go_wp2_with (go_at_call 9; refine (hrj _).mono ?_; rintro e w4 ⟨rfl, hb7⟩)
      have hb8 := hb6.trans (hb7.mono hz6)
      have hz8 := Nat.le_trans hz6 hb7.size
      refine wpAny_mid 4 17 (head_set (head_set (head_set (head_set (head_none 17) (by kernel_rfl) (by decide)) (by kernel_rfl) (by decide)) (by kernel_rfl) (by decide)) (by kernel_rfl) (by decide)) (by kernel_rfl) (by decide) (by decide) (by kernel_rfl) (by kernel_rfl) (by kernel_rfl) rfl ?_
      simp only [List.take_succ_cons, List.take_zero, List.drop_succ_cons, List.drop_zero]
      iterate 13 still_step
      refine wpStill_nil ?_
      change wpList _ _ _ _ _ w4
      go_wp2_with (go_at_call 10; refine (lives9 _ (HP.out _ hb8)).mono ?_; rintro e w5 ⟨rfl, hb9⟩)
      go_ret
      exact ⟨rfl, by rw [HB.out]; exact (HBX.out _ hb8).trans (hb9.mono (by omega))⟩
  | false =>
    have e2 : r.toList ≠ [] := by intro h; rw [h] at he; cases he
    have F := Lib.hid (show r.data.toList.isEmpty = false by rw [← E]; exact he)
    clear hr hrt E hB hwA hzA hbA hhA hp
    rw [F.out] at hro
    go_enter Tryd.func3, Tryd.ntmps3
    go_wp2_with fail
    rw [HWA.out, HB.out]
    refine (hro _ (HP.out _ hb0)).mono ?_
    rintro e w1 ⟨rfl, hb1⟩
    have hb2 := hb0.trans (hb1.mono hz0)
    have hz2 := hb2.size
    obtain ⟨c0, c1, c2, _, _, _⟩ := ev_cells (HX.out _ hb2)
    go_wp2_with fail
    refine (hre _).mono ?_
    rintro e w2 ⟨rfl, hb3⟩
    have hb4 := hb2.trans (hb3.mono (Nat.le_trans hz0 hz2))
    have hz4 := hb4.size
    clear c0 c1 c2
    obtain ⟨c0, c1, c2, _, _, _⟩ := ev_cells (HX.out _ hb4)
    clear hb1 hb2 hb3 hz2
    go_wp2_with fail
    have hb4d : Below (B + 1) wA w2.drew := hb4.drew
    have hz4d : B + 1 ≤ w2.drew.heap.size := Nat.le_trans hz0 hz4
    have a0 : w2.drew.cell? ⟨B, 0, none⟩ = some (.bool l) := c0
    have a1 : w2.drew.cell? ⟨B, 1, none⟩ = some (.int .i64 a) := c1
    have a2 : w2.drew.cell? ⟨B, 2, none⟩ = some (.int .i64 b) := c2
    have hrr : (rt == rt) = true := beq_self_eq_true rt
    clear c0 c1 c2
    refine wp_region_any (by kernel_rfl) ?_
    change wpAny _ _ _ _ _ _ _ (World.drew _)
    refine wpAny_ready (rs := [0,2]) (by kernel_rfl) (by simp) ?_
    refine AllReady.cons rfl (fun K hK => ?_) (AllReady.cons rfl (fun K hK => ?_) AllReady.nil)
    · go_simp
      refine hK _ _ ?_; clear hK K
      refine wpAny_ready (rs := [1,2]) (by kernel_rfl) (by simp) ?_
      refine AllReady.cons rfl (fun K hK => ?_) (AllReady.cons rfl (fun K hK => ?_) AllReady.nil)
      · go_simp
        go_wp2_with (go_at_call 8; refine (hri _).mono ?_; rintro e w3 ⟨rfl, hb5⟩)
        have hb6 := hb4d.trans (hb5.mono hz4d)
        have hz6 := Nat.le_trans hz4d hb5.size
        obtain ⟨d0, d1, d2, _, _, _⟩ := ev_cells (HX.out _ hb6)
        refine wpAny_ready (rs := [2]) (by kernel_rfl) (by simp) ?_
        refine AllReady.cons rfl (fun K hK => ?_) AllReady.nil
        go_simp
        refine hK _ _ ?_; clear hK K
        refine wpAny_ready (rs := [3]) (by kernel_rfl) (by simp) ?_
        refine AllReady.cons rfl (fun K hK => ?_) AllReady.nil
        go_simp
        go_wp2_with (go_at_call 9; refine (hrj _).mono ?_; rintro e w4 ⟨rfl, hb7⟩)
        have hb8 := hb6.trans (hb7.mono hz6)
        have hz8 := Nat.le_trans hz6 hb7.size
        refine wpAny_mid 4 17 (head_set (head_set (head_set (head_set (head_none 17) (by kernel_rfl) (by decide)) (by kernel_rfl) (by decide)) (by kernel_rfl) (by decide)) (by kernel_rfl) (by decide)) (by kernel_rfl) (by decide) (by decide) (by kernel_rfl) (by kernel_rfl) (by kernel_rfl) rfl ?_
        simp only [List.take_succ_cons, List.take_zero, List.drop_succ_cons, List.drop_zero]
        iterate 13 still_step
        refine wpStill_nil ?_
        change wpList _ _ _ _ _ w4
        go_wp2_with (go_at_call 10; refine (lives9 _ (HP.out _ hb8)).mono ?_; rintro e w5 ⟨rfl, hb9⟩)
        go_ret
        exact ⟨rfl, by rw [HB.out]; exact (HBX.out _ hb8).trans (hb9.mono (by omega))⟩
      · go_simp
        refine hK _ _ ?_; clear hK K
        refine wpAny_ready (rs := [1]) (by kernel_rfl) (by simp) ?_
        refine AllReady.cons rfl (fun K hK => ?_) AllReady.nil
        go_simp
        go_wp2_with (go_at_call 8; refine (hri _).mono ?_; rintro e w3 ⟨rfl, hb5⟩)
        have hb6 := hb4d.trans (hb5.mono hz4d)
        have hz6 := Nat.le_trans hz4d hb5.size
        obtain ⟨d0, d1, d2, _, _, _⟩ := ev_cells (HX.out _ hb6)
        refine wpAny_ready (rs := [3]) (by kernel_rfl) (by simp) ?_
        refine AllReady.cons rfl (fun K hK => ?_) AllReady.nil
        go_simp
        go_wp2_with (go_at_call 9; refine (hrj _).mono ?_; rintro e w4 ⟨rfl, hb7⟩)
        have hb8 := hb6.trans (hb7.mono hz6)
        have hz8 := Nat.le_trans hz6 hb7.size
        refine wpAny_mid 4 17 (head_set (head_set (head_set (head_set (head_none 17) (by kernel_rfl) (by decide)) (by kernel_rfl) (by decide)) (by kernel_rfl) (by decide)) (by kernel_rfl) (by decide)) (by kernel_rfl) (by decide) (by decide) (by kernel_rfl) (by kernel_rfl) (by kernel_rfl) rfl ?_
        simp only [List.take_succ_cons, List.take_zero, List.drop_succ_cons, List.drop_zero]
        iterate 13 still_step
        refine wpStill_nil ?_
        change wpList _ _ _ _ _ w4
        go_wp2_with (go_at_call 10; refine (lives9 _ (HP.out _ hb8)).mono ?_; rintro e w5 ⟨rfl, hb9⟩)
        go_ret
        exact ⟨rfl, by rw [HB.out]; exact (HBX.out _ hb8).trans (hb9.mono (by omega))⟩
    · go_simp
      refine hK _ _ ?_; clear hK K
      refine wpAny_ready (rs := [0]) (by kernel_rfl) (by simp) ?_
      refine AllReady.cons rfl (fun K hK => ?_) AllReady.nil
      go_simp
      refine hK _ _ ?_; clear hK K
      refine wpAny_ready (rs := [1]) (by kernel_rfl) (by simp) ?_
      refine AllReady.cons rfl (fun K hK => ?_) AllReady.nil
      go_simp
      go_wp2_with (go_at_call 8; refine (hri _).mono ?_; rintro e w3 ⟨rfl, hb5⟩)
      have hb6 := hb4d.trans (hb5.mono hz4d)
      have hz6 := Nat.le_trans hz4d hb5.size
      obtain ⟨d0, d1, d2, _, _, _⟩ := ev_cells (HX.out _ hb6)
      refine wpAny_ready (rs := [3]) (by kernel_rfl) (by simp) ?_
      refine AllReady.cons rfl (fun K hK => ?_) AllReady.nil
      go_simp
      go_wp2_with (go_at_call 9; refine (hrj _).mono ?_; rintro e w4 ⟨rfl, hb7⟩)
      have hb8 := hb6.trans (hb7.mono hz6)
      have hz8 := Nat.le_trans hz6 hb7.size
      refine wpAny_mid 4 17 (head_set (head_set (head_set (head_set (head_none 17) (by kernel_rfl) (by decide)) (by kernel_rfl) (by decide)) (by kernel_rfl) (by decide)) (by kernel_rfl) (by decide)) (by kernel_rfl) (by decide) (by decide) (by kernel_rfl) (by kernel_rfl) (by kernel_rfl) rfl ?_
      simp only [List.take_succ_cons, List.take_zero, List.drop_succ_cons, List.drop_zero]
      iterate 13 still_step
      refine wpStill_nil ?_
      change wpList _ _ _ _ _ w4
      go_wp2_with (go_at_call 10; refine (lives9 _ (HP.out _ hb8)).mono ?_; rintro e w5 ⟨rfl, hb9⟩)
      go_ret
      exact ⟨rfl, by rw [HB.out]; exact (HBX.out _ hb8).trans (hb9.mono (by omega))⟩
theorem tcoefRows_own : ownKnob Tryd.prog.godebug = none := by kernel_rfl
theorem tcoefRows_laid : laidOutB Tryd.prog = true := by kernel_rfl
theorem tcoefRows_reads : Tryd.f3.params.toList.all (fun t => Tryd.prog.readableRec t && decide (t < Tryd.prog.types.size)) = true := by kernel_rfl

set_option maxRecDepth 100000 in
theorem tcoefRows_lifted (os : Os) (started : os.Started) (H : Type) (enc : TypeId × Value → H) :
    ReturnsInHanded {} Tryd.checked os 3 .any (fun w args => (Rows.tcoefRowsSpec.pre enc Tryd.prog Tryd.f3 Rows.tcoefRowsRow.domain false w args ∧ laidMetH Tryd.prog Rows.tcoefRowsRow.laid w) ∧ sizedMet enc Tryd.prog Tryd.f3 (OpenSpec.ofChange Rows.tcoefRowsSpec) false w args)
      (Rows.tcoefRowsSpec.post enc Tryd.prog Tryd.f3 false true false false) := by
  refine returnsInHanded_of_change_and (C := Tryd.checked) (X := fun w _ => laidMetH Tryd.prog Rows.tcoefRowsRow.laid w) (fun _ _ _ hh h => h.of_heap hh) tcoefRows_own started (by kernel_rfl) Tryd.func3
    (ChangeSpec.witness_shaped (enc := enc) (C := Tryd.checked) (os := os) (X := fun w _ => laidMetH Tryd.prog Rows.tcoefRowsRow.laid w) false (World.laidAll Tryd.prog os Rows.tcoefRowsRow.laid) #[.agg #[.bool false, .int .i64 0, .int .i64 0]] 8 (World.laidAll_os _ _ _)
      (World.shaped_of_ZipB (by kernel_rfl) (by kernel_rfl)) (by kernel_rfl) (by kernel_rfl) (by kernel_rfl)
      (by rw [MakeChecks.laidMetH_plain _ _ _ (by kernel_rfl)]; exact laidMet_laidAll _ (by kernel_rfl) (by kernel_rfl))) ?_
  intro W base args ds gs before hval0 hW _ hsz0 hL _
  have hval : ∀ (j : Nat) t v, Tryd.f3.params[j]? = some t → args[j]? = some v → Value.okWide Tryd.prog W .any base t v := hval0
  have hW' := hW
  obtain ⟨p, q, hA0, hV, rfl, hfz, hnd⟩ := hW
  have hA : DataW.TrodAll enc Tryd.prog W 0 (fun _ => true) true Tryd.f3.params.toList args.toList ds p := hA0
  rw [Tryd.params3] at hA hval
  obtain ⟨v0, vs0, d0, ds0, p0, q0, hargs, rfl, rfl, h0, r0⟩ := trodAll_cons hA
  obtain ⟨rfl, rfl, rfl⟩ := trodAll_nil r0
  obtain rfl : args = #[v0] := by cases args; simp_all
  obtain ⟨rfl, rfl⟩ := trodVars_none hV
  obtain ⟨l0, a0, b0, rfl, w0, x0⟩ := open_ev Tryd.underlying23 Tryd.underlying4 Tryd.underlying3 rfl rfl rfl rfl rfl rfl (by kernel_rfl) (by kernel_rfl) (by kernel_rfl) (hval 0 23 v0 rfl rfl) h0
  clear hA0 hval0
  refine (tcoefRows_walk l0 a0 b0 W w0 x0 (tcoef_laid hL ⟨by simp [Rows.tcoefRowsRow], by kernel_rfl⟩)).mono fun e W' ⟨he, hb⟩ => ?_
  subst he
  exact ⟨_, rfl, law_end tcoefRows_laid tcoefRows_reads rfl Tryd.underlying4 rfl hW' rfl hb⟩

theorem tcoefRows_over : Rows.tcoefRowsRow.holds Tryd.pinned (OpenSpec.ofChange Rows.tcoefRowsSpec) :=
  OpenClaim.holds_of_wide 3 Tryd.f3 rfl rfl rfl rfl rfl rfl rfl ⟨rfl, rfl, rfl, rfl, rfl⟩ rfl rfl rfl rfl rfl (by kernel_rfl) Tryd.func3 (by kernel_rfl)
    (of_decide_eq_true (by kernel_rfl)) (by unfold Func.isWrapper; first | (rw [if_pos (by decide +kernel)]; kernel_rfl) | (rw [if_neg (by decide +kernel)]; exact ⟨rfl, rfl⟩))
    (fun os started H enc _ => tcoefRows_lifted os started H enc)

theorem tcoefRows_holds : Rows.TcoefRowsCardSaid :=
  Claim7.holds_tied_plain_at .later [] [.data, .data, .data] true Rows.tcoefRowsCard.stood.harness false tcoefRows_over (fun _ h => by cases h) (by kernel_rfl) (fun _ h => by cases h) tcoefRows_row_tie rfl ⟨rfl, rfl⟩ (by kernel_rfl) rfl
    (fun f fn hf hfn => by
      obtain rfl : f = 3 := Option.some.inj ((show Tryd.prog.funcNamed "overspill/overspilllaw09.TcoefRows" = some 3 by kernel_rfl).symm.trans hf) |>.symm
      obtain rfl : fn = Tryd.f3 := (Option.some.inj (Tryd.func3.symm.trans hfn)).symm
      exact ⟨by kernel_rfl, fun j t ht => by
        rw [Tryd.params3] at ht
        have hm : t ∈ [23] := by simpa using Array.mem_of_getElem? ht
        have hall : ([23].all fun u => !Tryd.prog.wantsStandIn u) = true := by kernel_rfl
        exact (show Tryd.prog.wantsStandIn t = false by simpa using List.all_eq_true.1 hall t hm)⟩)
    (by kernel_rfl)
#print axioms tcoefRows_holds
end Go.Proofs.YtobgeaghnljamaaDoor
