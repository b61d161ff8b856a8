/- The row of any difference is what the document's own answers say, or there is none; and the chapter's example comes out. Conditions: none but the card's: what the listed variables hold when the call begins, tied to the program's text. -/
import Derived.Test.YtbooiedfocigfaaDoorCards
import Derived.Test.YtbooiedfocigfaaDoorTie
import Derived.Test.YtbooiedfocigfaaDoorLives8
import Derived.Test.YtbooiedfocigfaaDoorLaws
import Derived.Test.YtbooiedfocigfaaDoorBack
import Derived.ProofKit
import Derived.LaidMore
import Derived.OpenShut
import Derived.Lay
import Derived.SizedLaws
import Derived.SevenTiedAt
import Derived.Stop.Joined
namespace Go.Proofs.YtbooiedfocigfaaDoor
open Go.ChangeShapes Go.WideShapes Go.ChangeAt Go.RowKit
set_option linter.unusedVariables false

set_option maxRecDepth 100000 in
set_option maxHeartbeats 2000000 in
theorem mvdRows_walk (d : Int) (w : World) (_ : (Lit.int .i64 d).wf = true) (hp : HasMvd w) :
    Calls Tryd.prog 3 #[.int .i64 d] w fun e w' => e = .returned (.bool true) ∧ Below w.heap.size w w' := by
  obtain ⟨r, hr⟩ : ∃ r, diffAt d = r := ⟨_, rfl⟩
  have R := Lib.hid hr
  have E := Lib.toList_data r
  have HP : ∀ x, Below w.heap.size w x → HasMvd x := fun x hx => hp.below hx
  cases he : r.toList.isEmpty with
  | true =>
    have e2 : r.toList = [] := by simpa using he
    have F := Lib.hid (show r.data.toList.isEmpty = true by rw [← E]; exact he)
    clear hr E
    go_enter Tryd.func3, Tryd.ntmps3
    go_wp2_with fail
    refine (drow_code d _ hp).mono ?_
    rintro e w1 ⟨rfl, hb1⟩
    rw [R.out, F.out]
    go_wp2_with fail
    refine (drow_page d _).mono ?_
    rintro e w2 ⟨rfl, hb2⟩
    rw [R.out]
    have hb3 := hb1.trans (hb2.mono hb1.size)
    have hp3 := HP _ hb3
    go_wp2_with (go_at_call 8; refine (lives8 _ hp3).mono ?_; rintro e w' ⟨rfl, hb⟩)
    go_ret
    exact ⟨rfl, hb3.trans (hb.mono hb3.size)⟩
  | false =>
    have e2 : r.toList ≠ [] := by intro h; rw [h] at he; cases he
    have F := Lib.hid (show r.data.toList.isEmpty = false by rw [← E]; exact he)
    clear hr E
    go_enter Tryd.func3, Tryd.ntmps3
    go_wp2_with fail
    refine (drow_code d _ hp).mono ?_
    rintro e w1 ⟨rfl, hb1⟩
    rw [R.out, F.out]
    go_wp2_with fail
    refine (drow_page d _).mono ?_
    rintro e w2 ⟨rfl, hb2⟩
    rw [R.out]
    have hb3 := hb1.trans (hb2.mono hb1.size)
    have hp3 := HP _ hb3
    go_wp2_with (go_at_call 8; refine (lives8 _ hp3).mono ?_; rintro e w' ⟨rfl, hb⟩)
    go_ret
    exact ⟨rfl, hb3.trans (hb.mono hb3.size)⟩
theorem mvdRows_own : ownKnob Tryd.prog.godebug = none := by kernel_rfl
theorem mvdRows_laid : laidOutB Tryd.prog = true := by kernel_rfl
theorem mvdRows_reads : Tryd.f3.params.toList.all (fun t => Tryd.prog.readableRec t && decide (t < Tryd.prog.types.size)) = true := by kernel_rfl

set_option maxRecDepth 100000 in
theorem mvdRows_lifted (os : Os) (started : os.Started) (H : Type) (enc : TypeId × Value → H) :
    ReturnsInHanded {} Tryd.checked os 3 .any (fun w args => (Rows.mvdRowsSpec.pre enc Tryd.prog Tryd.f3 Rows.mvdRowsRow.domain false w args ∧ laidMetH Tryd.prog Rows.mvdRowsRow.laid w) ∧ sizedMet enc Tryd.prog Tryd.f3 (OpenSpec.ofChange Rows.mvdRowsSpec) false w args)
      (Rows.mvdRowsSpec.post enc Tryd.prog Tryd.f3 false true false false) := by
  refine returnsInHanded_of_change_and (C := Tryd.checked) (X := fun w _ => laidMetH Tryd.prog Rows.mvdRowsRow.laid w) (fun _ _ _ hh h => h.of_heap hh) mvdRows_own started (by kernel_rfl) Tryd.func3
    (ChangeSpec.witness_shaped (enc := enc) (C := Tryd.checked) (os := os) (X := fun w _ => laidMetH Tryd.prog Rows.mvdRowsRow.laid w) false (World.laidAll Tryd.prog os Rows.mvdRowsRow.laid) #[.int .i64 0] 8 (World.laidAll_os _ _ _)
      (World.shaped_of_ZipB (by kernel_rfl) (by kernel_rfl)) (by kernel_rfl) (by kernel_rfl) (by kernel_rfl)
      (by rw [MakeChecks.laidMetH_plain _ _ _ (by kernel_rfl)]; exact laidMet_laidAll _ (by kernel_rfl) (by kernel_rfl))) ?_
  intro W base args ds gs before hval0 hW _ hsz0 hL _
  have hval : ∀ (j : Nat) t v, Tryd.f3.params[j]? = some t → args[j]? = some v → Value.okWide Tryd.prog W .any base t v := hval0
  have hW' := hW
  obtain ⟨p, q, hA0, hV, rfl, hfz, hnd⟩ := hW
  have hA : DataW.TrodAll enc Tryd.prog W 0 (fun _ => true) true Tryd.f3.params.toList args.toList ds p := hA0
  rw [Tryd.params3] at hA hval
  obtain ⟨v0, vs0, d0, ds0, p0, q0, hargs, rfl, rfl, h0, r0⟩ := trodAll_cons hA
  obtain ⟨rfl, rfl, rfl⟩ := trodAll_nil r0
  obtain rfl : args = #[v0] := by cases args; simp_all
  obtain ⟨rfl, rfl⟩ := trodVars_none hV
  obtain ⟨a0, rfl, rfl, rfl, w0⟩ := open_int Tryd.underlying3 (hval 0 3 v0 rfl rfl) h0
  clear hA0 hval0
  refine (mvdRows_walk a0 W w0 (mvd_laid hL ⟨by simp [Rows.mvdRowsRow], by kernel_rfl⟩)).mono fun e W' ⟨he, hb⟩ => ?_
  subst he
  exact ⟨_, rfl, law_end mvdRows_laid mvdRows_reads rfl Tryd.underlying4 rfl hW' rfl hb⟩

theorem mvdRows_over : Rows.mvdRowsRow.holds Tryd.pinned (OpenSpec.ofChange Rows.mvdRowsSpec) :=
  OpenClaim.holds_of_wide 3 Tryd.f3 rfl rfl rfl rfl rfl rfl rfl ⟨rfl, rfl, rfl, rfl, rfl⟩ rfl rfl rfl rfl rfl (by kernel_rfl) Tryd.func3 (by kernel_rfl)
    (of_decide_eq_true (by kernel_rfl)) (by unfold Func.isWrapper; first | (rw [if_pos (by decide +kernel)]; kernel_rfl) | (rw [if_neg (by decide +kernel)]; exact ⟨rfl, rfl⟩))
    (fun os started H enc _ => mvdRows_lifted os started H enc)

theorem mvdRows_holds : Rows.MvdRowsCardSaid :=
  Claim7.holds_tied_plain_at .later [] [.data, .data] true Rows.mvdRowsCard.stood.harness false mvdRows_over (fun _ h => by cases h) (by kernel_rfl) (fun _ h => by cases h) mvdRows_row_tie rfl ⟨rfl, rfl⟩ (by kernel_rfl) rfl
    (fun f fn hf hfn => by
      obtain rfl : f = 3 := Option.some.inj ((show Tryd.prog.funcNamed "overspill/overspilllaw08.MvdRows" = some 3 by kernel_rfl).symm.trans hf) |>.symm
      obtain rfl : fn = Tryd.f3 := (Option.some.inj (Tryd.func3.symm.trans hfn)).symm
      exact ⟨by kernel_rfl, fun j t ht => by
        rw [Tryd.params3] at ht
        have hm : t ∈ [3] := by simpa using Array.mem_of_getElem? ht
        have hall : ([3].all fun u => !Tryd.prog.wantsStandIn u) = true := by kernel_rfl
        exact (show Tryd.prog.wantsStandIn t = false by simpa using List.all_eq_true.1 hall t hm)⟩)
    (by kernel_rfl)
#print axioms mvdRows_holds
end Go.Proofs.YtbooiedfocigfaaDoor
