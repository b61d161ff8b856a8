/- The levels of any value, by any quantiser, and what tells any first value, are what the document's own answers say; and the chapter's examples come out. No condition. -/
import Derived.Test.YtgldkllmabkckaaRows
import Derived.Test.YtgldkllmabkckaaLev
import Derived.Test.YtgldkllmabkckaaLaws
import Derived.ProofKit
namespace Go.Proofs.Ytgldkllmabkckaa
open Go.ChangeShapes Go.WideShapes Go.ChangeAt Go.RowKit

set_option maxRecDepth 100000 in
set_option maxHeartbeats 2000000 in
theorem coarseLevels_walk (v q : Int) (_ : (Lit.int .i64 v).wf = true) (_ : (Lit.int .i64 q).wf = true) (w : World) : Calls Try.prog 3 #[.int .i64 v, .int .i64 q] w fun e w' => e = .returned (.bool true) ∧ Below w.heap.size w w' := by
  have h1 := fun w => inter_code v q w
  have h2 := fun w => level_page v q false w
  have h3 := fun w => intra_code v q w
  have h4 := fun w => level_page v q true w
  have h5 := fun w => tell_code v w
  have h6 := fun w => tell_page v w
  have h7 := lives13
  generalize levV v q false = a at h1 h2
  generalize levV v q true = b at h3 h4
  generalize tellV v = c at h5 h6
  go_enter Try.func3, Try.ntmps3
  go_wp2_with (first
    | (with_reducible refine (h1 _).mono ?_; rintro e w1 ⟨rfl, rfl⟩)
    | (with_reducible refine (h2 _).mono ?_; rintro e w1 ⟨rfl, rfl⟩)
    | (with_reducible refine (h3 _).mono ?_; rintro e w1 ⟨rfl, rfl⟩)
    | (with_reducible refine (h4 _).mono ?_; rintro e w1 ⟨rfl, rfl⟩)
    | (with_reducible refine (h5 _).mono ?_; rintro e w1 ⟨rfl, rfl⟩)
    | (with_reducible refine (h6 _).mono ?_; rintro e w1 ⟨rfl, rfl⟩)
    | (with_reducible refine (h7 _).mono ?_; rintro e w1 ⟨rfl, rfl⟩))
  go_ret
  exact ⟨rfl, Below.refl _ _⟩

theorem coarseLevels_own : ownKnob Try.prog.godebug = none := by kernel_rfl
theorem coarseLevels_laid : laidOutB Try.prog = true := by kernel_rfl
theorem coarseLevels_reads : Try.f3.params.toList.all (fun t => Try.prog.readableRec t && decide (t < Try.prog.types.size)) = true := by kernel_rfl

set_option maxRecDepth 100000 in
theorem coarseLevels_lifted (os : Os) (started : os.Started) (H : Type) (enc : TypeId × Value → H) :
    ReturnsInHanded {} Try.checked os 3 .any (Rows.coarseLevelsSpec.pre6 enc Try.prog Try.f3 Rows.coarseLevelsRow.domain false) (Rows.coarseLevelsSpec.post enc Try.prog Try.f3 false true false false) := by
  refine returnsInHanded_of_change (C := Try.checked) coarseLevels_own started (by kernel_rfl) Try.func3
    (ChangeSpec.witness6 (enc := enc) (C := Try.checked) false ⟨#[], #[.int .i64 0, .int .i64 0], []⟩ 8 (by kernel_rfl) (by kernel_rfl) (by kernel_rfl) (by kernel_rfl)) ?_
  intro W base args ds gs before hval0 hW hcnd _
  have hval : ∀ (j : Nat) t v, Try.f3.params[j]? = some t → args[j]? = some v → Value.okWide Try.prog W .any base t v := hval0
  have hW' := hW
  obtain ⟨p, q, hA0, hV, rfl, hfz, hnd⟩ := hW
  have hA : DataW.TrodAll enc Try.prog W 0 (fun _ => true) true Try.f3.params.toList args.toList ds p := hA0
  rw [Try.params3] at hA hval
  obtain ⟨v0, vs0, d0, ds0, p0, q0, hargs, rfl, rfl, h0, r0⟩ := trodAll_cons hA
  obtain ⟨v1, vs1, d1, ds1, p1, q1, rfl, rfl, rfl, h1, r1⟩ := trodAll_cons r0
  obtain ⟨rfl, rfl, rfl⟩ := trodAll_nil r1
  obtain rfl : args = #[v0, v1] := by cases args; simp_all
  obtain ⟨rfl, rfl⟩ := trodVars_none hV
  obtain ⟨a0, rfl, rfl, rfl, w0⟩ := open_int Try.underlying3 (hval 0 3 v0 rfl rfl) h0
  obtain ⟨a1, rfl, rfl, rfl, w1⟩ := open_int Try.underlying3 (hval 1 3 v1 rfl rfl) h1
  clear hA0 hval0
  refine (coarseLevels_walk a0 a1 w0 w1 W).mono fun e W' ⟨he, hb⟩ => ?_
  subst he
  exact ⟨_, rfl, law_end coarseLevels_laid coarseLevels_reads rfl Try.underlying4 rfl hW' rfl hb⟩

theorem coarseLevels_over : Rows.coarseLevelsRow.holds Try.pinned (OpenSpec.ofChange Rows.coarseLevelsSpec) :=
  OpenClaim.holds_of_wide 3 Try.f3 rfl rfl rfl rfl rfl rfl rfl ⟨rfl, rfl, rfl, rfl, rfl⟩ rfl rfl rfl rfl rfl (by kernel_rfl) Try.func3 (by kernel_rfl)
    (of_decide_eq_true (by kernel_rfl)) (by unfold Func.isWrapper; first | (rw [if_pos (by decide +kernel)]; kernel_rfl) | (rw [if_neg (by decide +kernel)]; exact ⟨rfl, rfl⟩))
    (fun os started H enc _ => coarseLevels_lifted os started H enc)

theorem coarseLevels_holds : Rows.CoarseLevelsSaid :=
  coarseLevels_over
#print axioms coarseLevels_holds
end Go.Proofs.Ytgldkllmabkckaa
