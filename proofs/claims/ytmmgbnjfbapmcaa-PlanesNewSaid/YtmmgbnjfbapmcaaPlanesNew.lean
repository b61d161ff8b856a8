/- A flat frame of any format, whether any frame is right, whether two are the same: what the document says. No condition. -/
import Derived.Test.YtmmgbnjfbapmcaaRows
import Derived.Test.YtmmgbnjfbapmcaaPnlaw
import Derived.Test.YtmmgbnjfbapmcaaLaws
import Derived.ProofKit
namespace Go.Proofs.Ytmmgbnjfbapmcaa
open Go.ChangeShapes Go.WideShapes Go.ChangeAt Go.RowKit

theorem planesNew_own : ownKnob Try.prog.godebug = none := by kernel_rfl
theorem planesNew_laid : laidOutB Try.prog = true := by kernel_rfl
theorem planesNew_reads : Try.f3.params.toList.all (fun t => Try.prog.readableRec t && decide (t < Try.prog.types.size)) = true := by kernel_rfl

set_option maxRecDepth 100000 in
theorem planesNew_lifted (os : Os) (started : os.Started) (H : Type) (enc : TypeId × Value → H) :
    ReturnsInHanded {} Try.checked os 3 .any (Rows.planesNewSpec.pre6 enc Try.prog Try.f3 Rows.planesNewRow.domain false) (Rows.planesNewSpec.post enc Try.prog Try.f3 false true false false) := by
  refine returnsInHanded_of_change (C := Try.checked) planesNew_own started (by kernel_rfl) Try.func3
    (ChangeSpec.witness6 (enc := enc) (C := Try.checked) false ⟨#[], #[.agg (frA 0 nilV), .agg (frA 0 nilV), .int .i64 0], []⟩ 8 (by kernel_rfl) (by kernel_rfl) (by kernel_rfl) (by kernel_rfl)) ?_
  intro W base args ds gs before hval0 hW hcnd _
  have hval : ∀ (j : Nat) t v, Try.f3.params[j]? = some t → args[j]? = some v → Value.okWide Try.prog W .any base t v := hval0
  have hW' := hW
  obtain ⟨p, q, hA0, hV, rfl, hfz, hnd⟩ := hW
  have hA : DataW.TrodAll enc Try.prog W 0 (fun _ => true) true Try.f3.params.toList args.toList ds p := hA0
  rw [Try.params3] at hA hval
  obtain ⟨v0, vs0, d0, ds0, p0, q0, hargs, rfl, rfl, h0, r0⟩ := trodAll_cons hA
  obtain ⟨v1, vs1, d1, ds1, p1, q1, rfl, rfl, rfl, h1, r1⟩ := trodAll_cons r0
  obtain ⟨v2, vs2, d2, ds2, p2, q2, rfl, rfl, rfl, h2, r2⟩ := trodAll_cons r1
  obtain ⟨rfl, rfl, rfl⟩ := trodAll_nil r2
  obtain rfl : args = #[v0, v1, v2] := by cases args; simp_all
  obtain ⟨rfl, rfl⟩ := trodVars_none hV
  obtain ⟨a0, v0', n0, f0, rfl, w0, x0, y0⟩ := open_frame Try.underlying25 Try.underlying3 Try.underlying23 Try.underlying22 Try.underlying5 rfl rfl rfl rfl (by kernel_rfl) (by kernel_rfl) (by kernel_rfl) (by kernel_rfl) (by kernel_rfl) (hval 0 25 v0 rfl rfl) h0
  obtain ⟨a1, v1', n1, f1, rfl, w1, x1, y1⟩ := open_frame Try.underlying25 Try.underlying3 Try.underlying23 Try.underlying22 Try.underlying5 rfl rfl rfl rfl (by kernel_rfl) (by kernel_rfl) (by kernel_rfl) (by kernel_rfl) (by kernel_rfl) (hval 1 25 v1 rfl rfl) h1
  obtain ⟨a2, rfl, rfl, rfl, w2⟩ := open_int Try.underlying3 (hval 2 3 v2 rfl rfl) h2
  clear hA0 hval0
  refine (planesNew_walk a0 v0' n0 f0 a1 v1' n1 f1 a2 W w0 x0 y0 w1 x1 y1 w2).mono fun e W' ⟨he, hb⟩ => ?_
  subst he
  exact ⟨_, rfl, law_end planesNew_laid planesNew_reads rfl Try.underlying4 rfl hW' rfl hb⟩

theorem planesNew_over : Rows.planesNewRow.holds Try.pinned (OpenSpec.ofChange Rows.planesNewSpec) :=
  OpenClaim.holds_of_wide 3 Try.f3 rfl rfl rfl rfl rfl rfl rfl ⟨rfl, rfl, rfl, rfl, rfl⟩ rfl rfl rfl rfl rfl (by kernel_rfl) Try.func3 (by kernel_rfl)
    (of_decide_eq_true (by kernel_rfl)) (by unfold Func.isWrapper; first | (rw [if_pos (by decide +kernel)]; kernel_rfl) | (rw [if_neg (by decide +kernel)]; exact ⟨rfl, rfl⟩))
    (fun os started H enc _ => planesNew_lifted os started H enc)

theorem planesNew_holds : Rows.PlanesNewSaid :=
  planesNew_over
#print axioms planesNew_holds
end Go.Proofs.Ytmmgbnjfbapmcaa
