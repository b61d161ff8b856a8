/- Which difference is taken at any bit of any text, or what is wrong, and where the reader stands then, is what the document's own answers say; and the chapter's example comes out. Conditions: none but the law's own (texts of up to 100 bytes), and the card's: what the listed variables hold when the call begins, tied to the program's text. -/
import Derived.Test.YtbooiedfocigfaaDoorCards
import Derived.Test.YtbooiedfocigfaaDoorTie
import Derived.Test.YtbooiedfocigfaaDoorLives8
import Derived.Test.YtbooiedfocigfaaDoorLaws
import Derived.Test.YtbooiedfocigfaaDoorBack
import Derived.ProofKit
import Derived.LaidMore
import Derived.OpenShut
import Derived.Lay
import Derived.SizedLaws
import Derived.SevenTiedAt
import Derived.Stop.Joined
namespace Go.Proofs.YtbooiedfocigfaaDoor
open Go.ChangeShapes Go.WideShapes Go.ChangeAt Go.RowKit
set_option linter.unusedVariables false

set_option maxRecDepth 100000 in
set_option maxHeartbeats 4000000 in
theorem mvdTakes_walk (s : ByteArray) (from_ : Int) (w : World) (hss : s.size ≤ maxLen) (hz : s.size ≤ 140737488355328) (wf : (Lit.int .i64 from_).wf = true) (hp : HasMvd w) :
    Calls Tryd.prog 4 #[.string s, .int .i64 from_] w fun e w' => e = .returned (.bool true) ∧ Below w.heap.size w w' := by
  unfold maxLen at hss
  obtain ⟨R, hR⟩ : ∃ R, w.heap.size = R := ⟨_, rfl⟩
  have hr0 : IsRd (w.alloc (rdObj s 0)) R s 0 := IsRd.fresh hR hz
  have hb0 : Below R w (w.alloc (rdObj s 0)) := by rw [← hR]; exact (Below.refl _ w).alloc (Nat.le_refl _) _
  have hz0 : R ≤ (w.alloc (rdObj s 0)).heap.size := by simp; omega
  have hP : ∀ x, Below R w x → HasMvd x := fun x hx => hp.below (by rw [hR]; exact hx)
  have HP := Lib.hid hP
  have HR := Lib.hid hR
  clear hR hP hp
  by_cases h100 : 100 < s.size
  · have t0 : decide (100 < (s.size : Int)) = true := by simp; omega
    clear h100
    go_enter Tryd.func4, Tryd.ntmps4
    go_wp2_with fail
    refine (rnew_code _ _).mono ?_
    rintro e w1 ⟨rfl, rfl⟩
    rw [HR.out]
    generalize w.alloc (rdObj s 0) = x0 at hr0 hb0 hz0 ⊢
    go_wp2_with (go_at_call 8; refine (lives8 _ (HP.out _ hb0)).mono ?_; rintro e w' ⟨rfl, hb⟩)
    go_ret
    exact ⟨rfl, by rw [HR.out]; exact hb0.trans (hb.mono hz0)⟩
  have t0 : decide (100 < (s.size : Int)) = false := by simp; omega
  by_cases hfr : 0 ≤ from_ ∧ from_ ≤ 8 * (s.size : Int)
  · obtain ⟨f0, f1⟩ := hfr
    go_enter Tryd.func4, Tryd.ntmps4
    go_wp2_with fail
    refine (rnew_code _ _).mono ?_
    rintro e w1 ⟨rfl, rfl⟩
    rw [HR.out]
    generalize w.alloc (rdObj s 0) = x0 at hr0 hb0 hz0 ⊢
    go_wp2_with fail
    refine (seek_code _ _ _ _ from_ hr0 f0 f1).mono ?_
    rintro e x1 ⟨rfl, hr1, hg1⟩
    obtain ⟨a, ha⟩ : ∃ a : Nat, from_ = a := ⟨from_.toNat, by omega⟩
    subst ha
    rw [Int.toNat_natCast] at hr1
    obtain ⟨hb1, hz1⟩ := below_ownP hb0 hz0 hg1 (Nat.le_refl R)
    clear hr0 hg1 hb0 hz0
    go_wp2_with fail
    refine (dget_code _ R s a (HP.out _ hb1) hr1).mono ?_
    rintro e x2 ⟨rfl, hr2, hg2⟩
    obtain ⟨hb2, hz2⟩ := below_ownP hb1 hz1 hg2 (Nat.le_refl R)
    clear hr1 hg2 hb1 hz1
    go_wp2_with fail
    refine (show_page s (by omega) _).mono ?_
    rintro e x3 ⟨rfl, hb3⟩
    have hb4 : Below R w x3 := hb2.trans (hb3.mono hz2)
    have hz4 : R ≤ x3.heap.size := Nat.le_trans hz2 hb3.size
    have hr4 := hr2.below hb3
    clear hb2 hz2 hb3 hr2
    have hsl : (⟨(showL s.data.toList).toArray⟩ : ByteArray).size = 8 * s.size := by rw [size_mk, showL_length]; rfl
    go_wp2_with fail
    refine (drtake_page _ a _ (by rw [hsl]; omega) (by rw [hsl]; omega)).mono ?_
    rintro e x4 ⟨rfl, hb5⟩
    rw [show (⟨(showL s.data.toList).toArray⟩ : ByteArray).data.toList = showL s.data.toList from rfl]
    have hb6 : Below R w x4 := hb4.trans (hb5.mono hz4)
    have hz6 : R ≤ x4.heap.size := Nat.le_trans hz4 hb5.size
    have hr6 := hr4.below hb5
    clear hb4 hz4 hb5 hr4
    obtain ⟨k, f, n, hm⟩ : ∃ k f n, dtk ((showL s.data.toList).drop a) = (k, f, n) := ⟨_, _, _, rfl⟩
    rw [hm] at hr6 ⊢
    clear hm
    go_wp2_with fail
    refine (dget_nil _).mono ?_
    rintro e x5 ⟨rfl, rfl⟩
    have hb8 := hb6
    have hz8 := hz6
    have hr8 := hr6
    clear hb6 hz6 hr6
    have g0 : (k == k) = true := beq_self_eq_true k
    have g2 : (f == f) = true := beq_self_eq_true f
    have hp8 := HP.out _ hb8
    go_wp2_with (first
      | (go_at_call 14; refine (at_code _ _ _ _ hr8).mono ?_; rintro e w' ⟨rfl, rfl⟩)
      | (go_at_call 8; refine (lives8 _ hp8).mono ?_; rintro e w' ⟨rfl, hb⟩))
    go_ret
    exact ⟨rfl, by rw [HR.out]; exact hb8.trans (hb.mono hz8)⟩
  · go_enter Tryd.func4, Tryd.ntmps4
    go_wp2_with fail
    refine (rnew_code _ _).mono ?_
    rintro e w1 ⟨rfl, rfl⟩
    rw [HR.out]
    generalize w.alloc (rdObj s 0) = x0 at hr0 hb0 hz0 ⊢
    go_wp2_with fail
    refine (seek_not _ _ _ _ from_ hr0 (by omega)).mono ?_
    rintro e x1 ⟨rfl, rfl⟩
    go_wp2_with (go_at_call 8; refine (lives8 _ (HP.out _ hb0)).mono ?_; rintro e w' ⟨rfl, hb⟩)
    go_ret
    exact ⟨rfl, by rw [HR.out]; exact hb0.trans (hb.mono hz0)⟩
theorem mvdTakes_own : ownKnob Tryd.prog.godebug = none := by kernel_rfl
theorem mvdTakes_laid : laidOutB Tryd.prog = true := by kernel_rfl
theorem mvdTakes_reads : Tryd.f4.params.toList.all (fun t => Tryd.prog.readableRec t && decide (t < Tryd.prog.types.size)) = true := by kernel_rfl

set_option maxRecDepth 100000 in
theorem mvdTakes_lifted (os : Os) (started : os.Started) (H : Type) (enc : TypeId × Value → H) :
    ReturnsInHanded {} Tryd.checked os 4 .any (fun w args => (Rows.mvdTakesSpec.pre enc Tryd.prog Tryd.f4 Rows.mvdTakesRow.domain false w args ∧ laidMetH Tryd.prog Rows.mvdTakesRow.laid w) ∧ sizedMet enc Tryd.prog Tryd.f4 (OpenSpec.ofChange Rows.mvdTakesSpec) false w args)
      (Rows.mvdTakesSpec.post enc Tryd.prog Tryd.f4 false true false false) := by
  refine returnsInHanded_of_change_and (C := Tryd.checked) (X := fun w _ => laidMetH Tryd.prog Rows.mvdTakesRow.laid w) (fun _ _ _ hh h => h.of_heap hh) mvdTakes_own started (by kernel_rfl) Tryd.func4
    (ChangeSpec.witness_shaped (enc := enc) (C := Tryd.checked) (os := os) (X := fun w _ => laidMetH Tryd.prog Rows.mvdTakesRow.laid w) false (World.laidAll Tryd.prog os Rows.mvdTakesRow.laid) #[.string ⟨#[]⟩, .int .i64 0] 8 (World.laidAll_os _ _ _)
      (World.shaped_of_ZipB (by kernel_rfl) (by kernel_rfl)) (by kernel_rfl) (by kernel_rfl) (by kernel_rfl)
      (by rw [MakeChecks.laidMetH_plain _ _ _ (by kernel_rfl)]; exact laidMet_laidAll _ (by kernel_rfl) (by kernel_rfl))) ?_
  intro W base args ds gs before hval0 hW _ hsz0 hL _
  have hval : ∀ (j : Nat) t v, Tryd.f4.params[j]? = some t → args[j]? = some v → Value.okWide Tryd.prog W .any base t v := hval0
  have hW' := hW
  obtain ⟨p, q, hA0, hV, rfl, hfz, hnd⟩ := hW
  have hA : DataW.TrodAll enc Tryd.prog W 0 (fun _ => true) true Tryd.f4.params.toList args.toList ds p := hA0
  rw [Tryd.params4] at hA hval
  obtain ⟨v0, vs0, d0, ds0, p0, q0, hargs, rfl, rfl, h0, r0⟩ := trodAll_cons hA
  obtain ⟨v1, vs1, d1, ds1, p1, q1, rfl, rfl, rfl, h1, r1⟩ := trodAll_cons r0
  obtain ⟨rfl, rfl, rfl⟩ := trodAll_nil r1
  obtain rfl : args = #[v0, v1] := by cases args; simp_all
  obtain ⟨rfl, rfl⟩ := trodVars_none hV
  obtain ⟨a0, rfl, rfl, rfl, w0⟩ := Go.ChangeMaps.open_string Tryd.underlying9 (hval 0 9 v0 rfl rfl) h0
  have z0 : a0.size ≤ 140737488355328 := Nat.le_trans (sized_string hsz0 (j := 0) rfl rfl) (Nat.le_of_lt reachBytes_lt)
  obtain ⟨a1, rfl, rfl, rfl, w1⟩ := open_int Tryd.underlying3 (hval 1 3 v1 rfl rfl) h1
  clear hA0 hval0
  refine (mvdTakes_walk a0 a1 W w0 z0 w1 (mvd_laid hL ⟨by simp [Rows.mvdTakesRow], by kernel_rfl⟩)).mono fun e W' ⟨he, hb⟩ => ?_
  subst he
  exact ⟨_, rfl, law_end mvdTakes_laid mvdTakes_reads rfl Tryd.underlying4 rfl hW' rfl hb⟩

theorem mvdTakes_over : Rows.mvdTakesRow.holds Tryd.pinned (OpenSpec.ofChange Rows.mvdTakesSpec) :=
  OpenClaim.holds_of_wide 4 Tryd.f4 rfl rfl rfl rfl rfl rfl rfl ⟨rfl, rfl, rfl, rfl, rfl⟩ rfl rfl rfl rfl rfl (by kernel_rfl) Tryd.func4 (by kernel_rfl)
    (of_decide_eq_true (by kernel_rfl)) (by unfold Func.isWrapper; first | (rw [if_pos (by decide +kernel)]; kernel_rfl) | (rw [if_neg (by decide +kernel)]; exact ⟨rfl, rfl⟩))
    (fun os started H enc _ => mvdTakes_lifted os started H enc)

theorem mvdTakes_holds : Rows.MvdTakesCardSaid :=
  Claim7.holds_tied_plain_at .later [] [.data, .data] true Rows.mvdTakesCard.stood.harness false mvdTakes_over (fun _ h => by cases h) (by kernel_rfl) (fun _ h => by cases h) mvdTakes_row_tie rfl ⟨rfl, rfl⟩ (by kernel_rfl) rfl
    (fun f fn hf hfn => by
      obtain rfl : f = 4 := Option.some.inj ((show Tryd.prog.funcNamed "overspill/overspilllaw08.MvdTakes" = some 4 by kernel_rfl).symm.trans hf) |>.symm
      obtain rfl : fn = Tryd.f4 := (Option.some.inj (Tryd.func4.symm.trans hfn)).symm
      exact ⟨by kernel_rfl, fun j t ht => by
        rw [Tryd.params4] at ht
        have hm : t ∈ [9, 3] := by simpa using Array.mem_of_getElem? ht
        have hall : ([9, 3].all fun u => !Tryd.prog.wantsStandIn u) = true := by kernel_rfl
        exact (show Tryd.prog.wantsStandIn t = false by simpa using List.all_eq_true.1 hall t hm)⟩)
    (by kernel_rfl)
#print axioms mvdTakes_holds
end Go.Proofs.YtbooiedfocigfaaDoor
