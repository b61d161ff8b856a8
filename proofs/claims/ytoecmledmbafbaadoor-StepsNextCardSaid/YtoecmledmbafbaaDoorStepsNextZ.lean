/- The quantiser behind any step, and the step between any two, is what the document's own answers say; and the chapter's examples come out. Conditions: none but the card's: what the listed variable holds when the call begins, tied to the program's text. -/
import Derived.Test.YtoecmledmbafbaaDoorStepsNextMe
import Derived.Test.YtoecmledmbafbaaDoorStepsNextMj
import Derived.Test.YtoecmledmbafbaaDoorCards
import Derived.Test.YtoecmledmbafbaaDoorTie
import Derived.ProofKit
import Derived.LaidMore
import Derived.OpenShut
import Derived.Lay
import Derived.SizedLaws
import Derived.SevenTiedAt
import Derived.Stop.Joined
namespace Go.Proofs.YtoecmledmbafbaaDoor
open Go.ChangeShapes Go.WideShapes Go.ChangeAt Go.RowKit
set_option linter.unusedVariables false
set_option maxHeartbeats 1000000 in
theorem stepsNext_walk (a s b : Int) (w : World) (_ : (Lit.int .i64 a).wf = true) (_ : (Lit.int .i64 s).wf = true) (_ : (Lit.int .i64 b).wf = true) (hp : HasSteps w) :
  Calls Tryd.prog 4 #[.int .i64 a, .int .i64 s, .int .i64 b] w fun e w' => e = .returned (.bool true) ∧ Below w.heap.size w w' := by
 have c1 := fun w => bet_code a b w
 have c2 := fun w => sbet_page a b w
 have c3 := fun w => next_code a s w
 have c4 := fun w => snext_page a s w
 have c5 := lives20 w hp
 generalize betQ a b = r at c1 c2
 obtain ⟨r1, r2⟩ := r
 generalize nextQ a s = n at c3 c4
 have g1 : (n == n) = true := beq_self_eq_true n
 have g2 : (r1 == r1) = true := beq_self_eq_true r1
 have g3 : (r2 == r2) = true := beq_self_eq_true r2
 clear hp
 go_enter Tryd.func4, Tryd.ntmps4
 go_wp2_with fail
 refine (c1 _).mono ?_
 rintro e w1 ⟨rfl, rfl⟩
 go_wp2_with fail
 refine (c2 _).mono ?_
 rintro e w1 ⟨rfl, rfl⟩
 go_wp2_with (first
  | (with_reducible refine (c3 _).mono ?_; rintro e w1 ⟨rfl, rfl⟩)
  | (with_reducible refine (c4 _).mono ?_; rintro e w1 ⟨rfl, rfl⟩)
  | (with_reducible refine c5.mono ?_; rintro e w' ⟨rfl, hb⟩))
 go_ret
 exact ⟨rfl, hb⟩
theorem stepsNext_own : ownKnob Tryd.prog.godebug = none := by kernel_rfl
theorem stepsNext_laid : laidOutB Tryd.prog = true := by kernel_rfl
theorem stepsNext_reads : Tryd.f4.params.toList.all (fun t => Tryd.prog.readableRec t && decide (t < Tryd.prog.types.size)) = true := by kernel_rfl
set_option maxRecDepth 100000 in
theorem stepsNext_lifted (os : Os) (started : os.Started) (H : Type) (enc : TypeId × Value → H) :
  ReturnsInHanded {} Tryd.checked os 4 .any (fun w args => (Rows.stepsNextSpec.pre enc Tryd.prog Tryd.f4 Rows.stepsNextRow.domain false w args ∧ laidMetH Tryd.prog Rows.stepsNextRow.laid w) ∧ sizedMet enc Tryd.prog Tryd.f4 (OpenSpec.ofChange Rows.stepsNextSpec) false w args)
   (Rows.stepsNextSpec.post enc Tryd.prog Tryd.f4 false true false false) := by
 refine returnsInHanded_of_change_and (C := Tryd.checked) (X := fun w _ => laidMetH Tryd.prog Rows.stepsNextRow.laid w) (fun _ _ _ hh h => h.of_heap hh) stepsNext_own started (by kernel_rfl) Tryd.func4
  (ChangeSpec.witness_shaped (enc := enc) (C := Tryd.checked) (os := os) (X := fun w _ => laidMetH Tryd.prog Rows.stepsNextRow.laid w) false (World.laidAll Tryd.prog os Rows.stepsNextRow.laid) #[.int .i64 0, .int .i64 0, .int .i64 0] 8 (World.laidAll_os _ _ _)
   (World.shaped_of_ZipB (by kernel_rfl) (by kernel_rfl)) (by kernel_rfl) (by kernel_rfl) (by kernel_rfl)
   (by rw [MakeChecks.laidMetH_plain _ _ _ (by kernel_rfl)]; exact laidMet_laidAll _ (by kernel_rfl) (by kernel_rfl))) ?_
 intro W base args ds gs before hval0 hW _ hsz0 hL _
 have hval : ∀ (j : Nat) t v, Tryd.f4.params[j]? = some t → args[j]? = some v → Value.okWide Tryd.prog W .any base t v := hval0
 have hW' := hW
 obtain ⟨p, q, hA0, hV, rfl, hfz, hnd⟩ := hW
 have hA : DataW.TrodAll enc Tryd.prog W 0 (fun _ => true) true Tryd.f4.params.toList args.toList ds p := hA0
 rw [Tryd.params4] at hA hval
 obtain ⟨v0, vs0, d0, ds0, p0, q0, hargs, rfl, rfl, h0, r0⟩ := trodAll_cons hA
 obtain ⟨v1, vs1, d1, ds1, p1, q1, rfl, rfl, rfl, h1, r1⟩ := trodAll_cons r0
 obtain ⟨v2, vs2, d2, ds2, p2, q2, rfl, rfl, rfl, h2, r2⟩ := trodAll_cons r1
 obtain ⟨rfl, rfl, rfl⟩ := trodAll_nil r2
 obtain rfl : args = #[v0, v1, v2] := by cases args; simp_all
 obtain ⟨rfl, rfl⟩ := trodVars_none hV
 obtain ⟨a0, rfl, rfl, rfl, w0⟩ := open_int Tryd.underlying3 (hval 0 3 v0 rfl rfl) h0
 obtain ⟨a1, rfl, rfl, rfl, w1⟩ := open_int Tryd.underlying3 (hval 1 3 v1 rfl rfl) h1
 obtain ⟨a2, rfl, rfl, rfl, w2⟩ := open_int Tryd.underlying3 (hval 2 3 v2 rfl rfl) h2
 clear hA0 hval0
 refine (stepsNext_walk a0 a1 a2 W w0 w1 w2 (steps_laid hL ⟨by simp [Rows.stepsNextRow], by kernel_rfl⟩)).mono fun e W' ⟨he, hb⟩ => ?_
 subst he
 exact ⟨_, rfl, law_end stepsNext_laid stepsNext_reads rfl Tryd.underlying4 rfl hW' rfl hb⟩
theorem stepsNext_over : Rows.stepsNextRow.holds Tryd.pinned (OpenSpec.ofChange Rows.stepsNextSpec) :=
 OpenClaim.holds_of_wide 4 Tryd.f4 rfl rfl rfl rfl rfl rfl rfl ⟨rfl, rfl, rfl, rfl, rfl⟩ rfl rfl rfl rfl rfl (by kernel_rfl) Tryd.func4 (by kernel_rfl)
  (of_decide_eq_true (by kernel_rfl)) (by unfold Func.isWrapper; first | (rw [if_pos (by decide +kernel)]; kernel_rfl) | (rw [if_neg (by decide +kernel)]; exact ⟨rfl, rfl⟩))
  (fun os started H enc _ => stepsNext_lifted os started H enc)
theorem stepsNext_holds : Rows.StepsNextCardSaid :=
 Claim7.holds_tied_plain_at .later [] [.data] true Rows.stepsNextCard.stood.harness false stepsNext_over (fun _ h => by cases h) (by kernel_rfl) (fun _ h => by cases h) stepsNext_row_tie rfl ⟨rfl, rfl⟩ (by kernel_rfl) rfl
  (fun f fn hf hfn => by
   obtain rfl : f = 4 := Option.some.inj ((show Tryd.prog.funcNamed "overspill/overspilllaw20.StepsNext" = some 4 by kernel_rfl).symm.trans hf) |>.symm
   obtain rfl : fn = Tryd.f4 := (Option.some.inj (Tryd.func4.symm.trans hfn)).symm
   exact ⟨by kernel_rfl, fun j t ht => by
    rw [Tryd.params4] at ht
    have hm : t ∈ [3, 3, 3] := by simpa using Array.mem_of_getElem? ht
    have hall : ([3, 3, 3].all fun u => !Tryd.prog.wantsStandIn u) = true := by kernel_rfl
    exact (show Tryd.prog.wantsStandIn t = false by simpa using List.all_eq_true.1 hall t hm)⟩)
  (by kernel_rfl)
#print axioms stepsNext_holds
end Go.Proofs.YtoecmledmbafbaaDoor
