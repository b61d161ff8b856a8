/- Which event is taken at any bit of any text, or what is wrong, and where the reader stands then, is what the document's own answers say; and the chapter's examples come out. Conditions: none but the law's own (texts of up to 100 bytes), and the card's: what the listed variables hold when the call begins, tied to the program's text. -/
import Derived.Test.YtobgeaghnljamaaDoorCards
import Derived.Test.YtobgeaghnljamaaDoorTie
import Derived.Test.YtobgeaghnljamaaDoorLives9
import Derived.Test.YtobgeaghnljamaaDoorErtake
import Derived.Test.YtobgeaghnljamaaDoorLaws
import Derived.Test.YtobgeaghnljamaaDoorBack
import Derived.RegionTactic
import Derived.Deep.RegionWith
import Derived.Deep.CutRange
import Derived.Deep.DeepCutAuto
import Derived.ProofKit
import Derived.LaidMore
import Derived.OpenShut
import Derived.Lay
import Derived.SizedLaws
import Derived.SevenTiedAt
import Derived.Stop.Joined
namespace Go.Proofs.YtobgeaghnljamaaDoor
open Go.ChangeShapes Go.WideShapes Go.ChangeAt Go.RowKit
set_option linter.unusedVariables false

set_option maxRecDepth 100000 in
set_option maxHeartbeats 4000000 in
theorem tcoefTakes_walk (s : ByteArray) (from_ : Int) (w : World) (hss : s.size ≤ maxLen) (hz : s.size ≤ 140737488355328) (wf : (Lit.int .i64 from_).wf = true) (hp : HasT w) :
    Calls Tryd.prog 4 #[.string s, .int .i64 from_] w fun e w' => e = .returned (.bool true) ∧ Below w.heap.size w w' := by
  unfold maxLen at hss
  obtain ⟨R, hR⟩ : ∃ R, w.heap.size = R := ⟨_, rfl⟩
  have hr0 : IsRd (w.alloc (rdObj s 0)) R s 0 := IsRd.fresh hR hz
  have hb0 : Below R w (w.alloc (rdObj s 0)) := by rw [← hR]; exact (Below.refl _ w).alloc (Nat.le_refl _) _
  have hz0 : R ≤ (w.alloc (rdObj s 0)).heap.size := by simp; omega
  have hP : ∀ x, Below R w x → HasT x := fun x hx => hp.below (by rw [hR]; exact hx)
  have HP := Lib.hid hP
  have HR := Lib.hid hR
  clear hR hP hp
  by_cases h100 : 100 < s.size
  · have t0 : decide (100 < (s.size : Int)) = true := by simp; omega
    clear h100
    go_enter Tryd.func4, Tryd.ntmps4
    go_wp2_with fail
    refine (rnew_code _ _).mono ?_
    rintro e w1 ⟨rfl, rfl⟩
    rw [HR.out]
    generalize w.alloc (rdObj s 0) = x0 at hr0 hb0 hz0 ⊢
    go_wp2_with (go_at_call 10; refine (lives9 _ (HP.out _ hb0)).mono ?_; rintro e w' ⟨rfl, hb⟩)
    go_ret
    exact ⟨rfl, by rw [HR.out]; exact hb0.trans (hb.mono hz0)⟩
  have t0 : decide (100 < (s.size : Int)) = false := by simp; omega
  by_cases hfr : 0 ≤ from_ ∧ from_ ≤ 8 * (s.size : Int)
  · obtain ⟨f0, f1⟩ := hfr
    go_enter Tryd.func4, Tryd.ntmps4
    go_wp2_with fail
    refine (rnew_code _ _).mono ?_
    rintro e w1 ⟨rfl, rfl⟩
    rw [HR.out]
    generalize w.alloc (rdObj s 0) = x0 at hr0 hb0 hz0 ⊢
    go_wp2_with fail
    refine (seek_code _ _ _ _ from_ hr0 f0 f1).mono ?_
    rintro e x1 ⟨rfl, hr1, hg1⟩
    obtain ⟨a, ha⟩ : ∃ a : Nat, from_ = a := ⟨from_.toNat, by omega⟩
    subst ha
    rw [Int.toNat_natCast] at hr1
    obtain ⟨hb1, hz1⟩ := below_ownP hb0 hz0 hg1 (Nat.le_refl R)
    clear hr0 hg1 hb0 hz0
    obtain ⟨⟨l, r, v⟩, f, n, hm⟩ : ∃ x f n, etk ((showL s.data.toList).drop a) = (x, f, n) := ⟨_, _, _, rfl⟩
    have HM := Lib.hid hm
    clear hm
    go_wp2_with fail
    refine (eget_code _ R s a (HP.out _ hb1) hr1).mono ?_
    rintro e x2 ⟨rfl, hr2, hg2⟩
    obtain ⟨hb2, hz2⟩ := below_ownP hb1 hz1 hg2 (Nat.le_refl R)
    rw [HM.out] at hr2 ⊢
    simp only [evVal]
    clear hr1 hg2 hb1 hz1
    have hb3 := hb2.alloc hz2 (.cells #[.bool l, .int .i64 (r : Int), .int .i64 v] 23 (0, 0))
    have hr3 := hr2.below ((Below.refl _ x2).alloc (Nat.le_refl _) (.cells #[.bool l, .int .i64 (r : Int), .int .i64 v] 23 (0, 0)))
    have hx3 : (x2.alloc (.cells #[.bool l, .int .i64 (r : Int), .int .i64 v] 23 (0, 0))).heap[x2.heap.size]? = some (evObj l r v) := heap_alloc_new x2 _
    have hz3 : R ≤ (x2.alloc (.cells #[.bool l, .int .i64 (r : Int), .int .i64 v] 23 (0, 0))).heap.size := Nat.le_trans hz2 (by simp)
    obtain ⟨X, hX⟩ : ∃ X, x2.heap.size = X := ⟨_, rfl⟩
    rw [hX] at hx3
    have HXX := Lib.hid hX
    clear hX hb2 hz2 hr2
    go_wp2_with fail
    rw [HXX.out]
    generalize x2.alloc (.cells #[.bool l, .int .i64 (r : Int), .int .i64 v] 23 (0, 0)) = y3 at hb3 hr3 hx3 hz3 ⊢
    have hXlt := (Array.getElem?_eq_some_iff.1 hx3).1
    refine (show_page s (by omega) _).mono ?_
    rintro e x4 ⟨rfl, hb4⟩
    have hb5 : Below R w x4 := hb3.trans (hb4.mono hz3)
    have hz5 : R ≤ x4.heap.size := Nat.le_trans hz3 hb4.size
    have hr5 := hr3.below hb4
    have hx5 := (hb4.block X hXlt).trans hx3
    have hXlt5 := (Array.getElem?_eq_some_iff.1 hx5).1
    clear hb3 hz3 hb4 hr3 hx3 hXlt
    have hsl : (⟨(showL s.data.toList).toArray⟩ : ByteArray).size = 8 * s.size := by rw [size_mk, showL_length]; rfl
    go_wp2_with fail
    refine (ertake_page _ a _ (by rw [hsl]; omega) (by rw [hsl]; omega) (showL_row _)).mono ?_
    rintro e x6 ⟨rfl, hb6⟩
    rw [show (⟨(showL s.data.toList).toArray⟩ : ByteArray).data.toList = showL s.data.toList from rfl]
    rw [HM.out]
    simp only [evVal]
    have hb7 : Below R w x6 := hb5.trans (hb6.mono hz5)
    have hz7 : R ≤ x6.heap.size := Nat.le_trans hz5 hb6.size
    have hr7 := hr5.below hb6
    have hx7 := (hb6.block X hXlt5).trans hx5
    have hXlt7 := (Array.getElem?_eq_some_iff.1 hx7).1
    clear hb5 hz5 hb6 hr5 hx5 hXlt5
    have hb8 := hb7.alloc hz7 (.cells #[.bool l, .int .i64 (r : Int), .int .i64 v] 23 (0, 0))
    have hr8 := hr7.below ((Below.refl _ x6).alloc (Nat.le_refl _) (.cells #[.bool l, .int .i64 (r : Int), .int .i64 v] 23 (0, 0)))
    have hx8 : (x6.alloc (.cells #[.bool l, .int .i64 (r : Int), .int .i64 v] 23 (0, 0))).heap[X]? = some (evObj l r v) := heap_keep hx7
    have hy8 : (x6.alloc (.cells #[.bool l, .int .i64 (r : Int), .int .i64 v] 23 (0, 0))).heap[x6.heap.size]? = some (evObj l r v) := heap_alloc_new x6 _
    have hz8 : R ≤ (x6.alloc (.cells #[.bool l, .int .i64 (r : Int), .int .i64 v] 23 (0, 0))).heap.size := Nat.le_trans hz7 (by simp)
    obtain ⟨Y, hY⟩ : ∃ Y, x6.heap.size = Y := ⟨_, rfl⟩
    rw [hY] at hy8
    have HYY := Lib.hid hY
    clear hY hb7 hz7 hr7 hx7 hXlt7
    go_wp2_with fail
    rw [HYY.out]
    generalize x6.alloc (.cells #[.bool l, .int .i64 (r : Int), .int .i64 v] 23 (0, 0)) = y8 at hb8 hr8 hx8 hy8 hz8 ⊢
    refine (eget_nil _).mono ?_
    rintro e x9 ⟨rfl, hb9⟩
    simp only [evVal]
    have hb10 : Below R w x9 := hb8.trans (hb9.mono hz8)
    have hz10 : R ≤ x9.heap.size := Nat.le_trans hz8 hb9.size
    have hr10 := hr8.below hb9
    have hb11 := hb10.alloc hz10 (.cells #[.bool false, .int .i64 0, .int .i64 0] 23 (0, 0))
    have hz11 : R ≤ (x9.alloc (.cells #[.bool false, .int .i64 0, .int .i64 0] 23 (0, 0))).heap.size := Nat.le_trans hz10 (by simp)
    have hr11 := hr10.below ((Below.refl _ x9).alloc (Nat.le_refl _) (.cells #[.bool false, .int .i64 0, .int .i64 0] 23 (0, 0)))
    have hx11 : (x9.alloc (.cells #[.bool false, .int .i64 0, .int .i64 0] 23 (0, 0))).heap[X]? = some (evObj l r v) := heap_keep ((hb9.block X (Array.getElem?_eq_some_iff.1 hx8).1).trans hx8)
    have hy11 : (x9.alloc (.cells #[.bool false, .int .i64 0, .int .i64 0] 23 (0, 0))).heap[Y]? = some (evObj l r v) := heap_keep ((hb9.block Y (Array.getElem?_eq_some_iff.1 hy8).1).trans hy8)
    obtain ⟨c0, c1, c2, _, _, _⟩ := ev_cells hx11
    obtain ⟨d0, d1, d2, _, _, _⟩ := ev_cells hy11
    clear hb8 hb9 hr8 hx8 hy8 hz8 hb10 hz10 hr10
    have g2 : (f == f) = true := beq_self_eq_true f
    have hp11 := HP.out _ hb11
    go_wp2_with (first
      | (go_at_call 16; refine (at_code _ _ _ _ hr11).mono ?_; rintro e w' ⟨rfl, rfl⟩)
      | (go_at_call 10; refine (lives9 _ hp11).mono ?_; rintro e w' ⟨rfl, hb⟩))
    go_ret
    exact ⟨rfl, by rw [HR.out]; exact hb11.trans (hb.mono hz11)⟩
  · go_enter Tryd.func4, Tryd.ntmps4
    go_wp2_with fail
    refine (rnew_code _ _).mono ?_
    rintro e w1 ⟨rfl, rfl⟩
    rw [HR.out]
    generalize w.alloc (rdObj s 0) = x0 at hr0 hb0 hz0 ⊢
    go_wp2_with fail
    refine (seek_not _ _ _ _ from_ hr0 (by omega)).mono ?_
    rintro e x1 ⟨rfl, rfl⟩
    go_wp2_with (go_at_call 10; refine (lives9 _ (HP.out _ hb0)).mono ?_; rintro e w' ⟨rfl, hb⟩)
    go_ret
    exact ⟨rfl, by rw [HR.out]; exact hb0.trans (hb.mono hz0)⟩
theorem tcoefTakes_own : ownKnob Tryd.prog.godebug = none := by kernel_rfl
theorem tcoefTakes_laid : laidOutB Tryd.prog = true := by kernel_rfl
theorem tcoefTakes_reads : Tryd.f4.params.toList.all (fun t => Tryd.prog.readableRec t && decide (t < Tryd.prog.types.size)) = true := by kernel_rfl

set_option maxRecDepth 100000 in
theorem tcoefTakes_lifted (os : Os) (started : os.Started) (H : Type) (enc : TypeId × Value → H) :
    ReturnsInHanded {} Tryd.checked os 4 .any (fun w args => (Rows.tcoefTakesSpec.pre enc Tryd.prog Tryd.f4 Rows.tcoefTakesRow.domain false w args ∧ laidMetH Tryd.prog Rows.tcoefTakesRow.laid w) ∧ sizedMet enc Tryd.prog Tryd.f4 (OpenSpec.ofChange Rows.tcoefTakesSpec) false w args)
      (Rows.tcoefTakesSpec.post enc Tryd.prog Tryd.f4 false true false false) := by
  refine returnsInHanded_of_change_and (C := Tryd.checked) (X := fun w _ => laidMetH Tryd.prog Rows.tcoefTakesRow.laid w) (fun _ _ _ hh h => h.of_heap hh) tcoefTakes_own started (by kernel_rfl) Tryd.func4
    (ChangeSpec.witness_shaped (enc := enc) (C := Tryd.checked) (os := os) (X := fun w _ => laidMetH Tryd.prog Rows.tcoefTakesRow.laid w) false (World.laidAll Tryd.prog os Rows.tcoefTakesRow.laid) #[.string ⟨#[]⟩, .int .i64 0] 8 (World.laidAll_os _ _ _)
      (World.shaped_of_ZipB (by kernel_rfl) (by kernel_rfl)) (by kernel_rfl) (by kernel_rfl) (by kernel_rfl)
      (by rw [MakeChecks.laidMetH_plain _ _ _ (by kernel_rfl)]; exact laidMet_laidAll _ (by kernel_rfl) (by kernel_rfl))) ?_
  intro W base args ds gs before hval0 hW _ hsz0 hL _
  have hval : ∀ (j : Nat) t v, Tryd.f4.params[j]? = some t → args[j]? = some v → Value.okWide Tryd.prog W .any base t v := hval0
  have hW' := hW
  obtain ⟨p, q, hA0, hV, rfl, hfz, hnd⟩ := hW
  have hA : DataW.TrodAll enc Tryd.prog W 0 (fun _ => true) true Tryd.f4.params.toList args.toList ds p := hA0
  rw [Tryd.params4] at hA hval
  obtain ⟨v0, vs0, d0, ds0, p0, q0, hargs, rfl, rfl, h0, r0⟩ := trodAll_cons hA
  obtain ⟨v1, vs1, d1, ds1, p1, q1, rfl, rfl, rfl, h1, r1⟩ := trodAll_cons r0
  obtain ⟨rfl, rfl, rfl⟩ := trodAll_nil r1
  obtain rfl : args = #[v0, v1] := by cases args; simp_all
  obtain ⟨rfl, rfl⟩ := trodVars_none hV
  obtain ⟨a0, rfl, rfl, rfl, w0⟩ := Go.ChangeMaps.open_string Tryd.underlying9 (hval 0 9 v0 rfl rfl) h0
  have z0 : a0.size ≤ 140737488355328 := Nat.le_trans (sized_string hsz0 (j := 0) rfl rfl) (Nat.le_of_lt reachBytes_lt)
  obtain ⟨a1, rfl, rfl, rfl, w1⟩ := open_int Tryd.underlying3 (hval 1 3 v1 rfl rfl) h1
  clear hA0 hval0
  refine (tcoefTakes_walk a0 a1 W w0 z0 w1 (tcoef_laid hL ⟨by simp [Rows.tcoefTakesRow], by kernel_rfl⟩)).mono fun e W' ⟨he, hb⟩ => ?_
  subst he
  exact ⟨_, rfl, law_end tcoefTakes_laid tcoefTakes_reads rfl Tryd.underlying4 rfl hW' rfl hb⟩

theorem tcoefTakes_over : Rows.tcoefTakesRow.holds Tryd.pinned (OpenSpec.ofChange Rows.tcoefTakesSpec) :=
  OpenClaim.holds_of_wide 4 Tryd.f4 rfl rfl rfl rfl rfl rfl rfl ⟨rfl, rfl, rfl, rfl, rfl⟩ rfl rfl rfl rfl rfl (by kernel_rfl) Tryd.func4 (by kernel_rfl)
    (of_decide_eq_true (by kernel_rfl)) (by unfold Func.isWrapper; first | (rw [if_pos (by decide +kernel)]; kernel_rfl) | (rw [if_neg (by decide +kernel)]; exact ⟨rfl, rfl⟩))
    (fun os started H enc _ => tcoefTakes_lifted os started H enc)

theorem tcoefTakes_holds : Rows.TcoefTakesCardSaid :=
  Claim7.holds_tied_plain_at .later [] [.data, .data, .data] true Rows.tcoefTakesCard.stood.harness false tcoefTakes_over (fun _ h => by cases h) (by kernel_rfl) (fun _ h => by cases h) tcoefTakes_row_tie rfl ⟨rfl, rfl⟩ (by kernel_rfl) rfl
    (fun f fn hf hfn => by
      obtain rfl : f = 4 := Option.some.inj ((show Tryd.prog.funcNamed "overspill/overspilllaw09.TcoefTakes" = some 4 by kernel_rfl).symm.trans hf) |>.symm
      obtain rfl : fn = Tryd.f4 := (Option.some.inj (Tryd.func4.symm.trans hfn)).symm
      exact ⟨by kernel_rfl, fun j t ht => by
        rw [Tryd.params4] at ht
        have hm : t ∈ [9, 3] := by simpa using Array.mem_of_getElem? ht
        have hall : ([9, 3].all fun u => !Tryd.prog.wantsStandIn u) = true := by kernel_rfl
        exact (show Tryd.prog.wantsStandIn t = false by simpa using List.all_eq_true.1 hall t hm)⟩)
    (by kernel_rfl)
#print axioms tcoefTakes_holds
end Go.Proofs.YtobgeaghnljamaaDoor
