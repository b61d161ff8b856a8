/- By no motion a cell is predicted as it is cut; out of a flat frame it is flat; else its samples lie between the least and the greatest of their plane. No condition. -/
import Derived.Test.YtnpmllbdpmkliaaRows
import Derived.Test.YtnpmllbdpmkliaaVslaw
import Derived.Test.YtnpmllbdpmkliaaLaws
import Derived.ProofKit
namespace Go.Proofs.Ytnpmllbdpmkliaa
open Go.ChangeShapes Go.WideShapes Go.ChangeAt Go.RowKit

theorem motionStill_own : ownKnob Try.prog.godebug = none := by kernel_rfl
theorem motionStill_laid : laidOutB Try.prog = true := by kernel_rfl
theorem motionStill_reads : Try.f5.params.toList.all (fun t => Try.prog.readableRec t && decide (t < Try.prog.types.size)) = true := by kernel_rfl

set_option maxRecDepth 100000 in
theorem motionStill_lifted (os : Os) (started : os.Started) (H : Type) (enc : TypeId × Value → H) :
    ReturnsInHanded {} Try.checked os 5 .any (Rows.motionStillSpec.pre6 enc Try.prog Try.f5 Rows.motionStillRow.domain false) (Rows.motionStillSpec.post enc Try.prog Try.f5 false true false false) := by
  refine returnsInHanded_of_change (C := Try.checked) motionStill_own started (by kernel_rfl) Try.func5
    (ChangeSpec.witness6 (enc := enc) (C := Try.checked) false ⟨#[], #[.agg (frA 0 nilV), .int .i64 0, .agg #[.int .i64 0, .int .i64 0, .int .i64 0]], []⟩ 8 (by kernel_rfl) (by kernel_rfl) (by kernel_rfl) (by kernel_rfl)) ?_
  intro W base args ds gs before hval0 hW hcnd _
  have hval : ∀ (j : Nat) t v, Try.f5.params[j]? = some t → args[j]? = some v → Value.okWide Try.prog W .any base t v := hval0
  have hW' := hW
  obtain ⟨p, q, hA0, hV, rfl, hfz, hnd⟩ := hW
  have hA : DataW.TrodAll enc Try.prog W 0 (fun _ => true) true Try.f5.params.toList args.toList ds p := hA0
  rw [Try.params5] at hA hval
  obtain ⟨v0, vs0, d0, ds0, p0, q0, hargs, rfl, rfl, h0, r0⟩ := trodAll_cons hA
  obtain ⟨v1, vs1, d1, ds1, p1, q1, rfl, rfl, rfl, h1, r1⟩ := trodAll_cons r0
  obtain ⟨v2, vs2, d2, ds2, p2, q2, rfl, rfl, rfl, h2, r2⟩ := trodAll_cons r1
  obtain ⟨rfl, rfl, rfl⟩ := trodAll_nil r2
  obtain rfl : args = #[v0, v1, v2] := by cases args; simp_all
  obtain ⟨rfl, rfl⟩ := trodVars_none hV
  obtain ⟨a0, v0', n0, f0, rfl, w0, x0, y0⟩ := open_frame Try.underlying29 Try.underlying3 Try.underlying27 Try.underlying26 Try.underlying5 rfl rfl rfl rfl (by kernel_rfl) (by kernel_rfl) (by kernel_rfl) (by kernel_rfl) (by kernel_rfl) (hval 0 29 v0 rfl rfl) h0
  obtain ⟨a1, rfl, rfl, rfl, w1⟩ := open_int Try.underlying3 (hval 1 3 v1 rfl rfl) h1
  obtain ⟨a2, b2, s2, rfl, w2, x2, y2⟩ := open_three Try.underlying39 Try.underlying3 (by kernel_rfl) (by kernel_rfl) (hval 2 39 v2 rfl rfl) h2
  clear hA0 hval0
  refine (motionStill_walk a0 v0' n0 f0 a1 a2 b2 s2 W w0 x0 y0 w1 w2 x2 y2).mono fun e W' ⟨he, hb⟩ => ?_
  subst he
  exact ⟨_, rfl, law_end motionStill_laid motionStill_reads rfl Try.underlying4 rfl hW' rfl hb⟩

theorem motionStill_over : Rows.motionStillRow.holds Try.pinned (OpenSpec.ofChange Rows.motionStillSpec) :=
  OpenClaim.holds_of_wide 5 Try.f5 rfl rfl rfl rfl rfl rfl rfl ⟨rfl, rfl, rfl, rfl, rfl⟩ rfl rfl rfl rfl rfl (by kernel_rfl) Try.func5 (by kernel_rfl)
    (of_decide_eq_true (by kernel_rfl)) (by unfold Func.isWrapper; first | (rw [if_pos (by decide +kernel)]; kernel_rfl) | (rw [if_neg (by decide +kernel)]; exact ⟨rfl, rfl⟩))
    (fun os started H enc _ => motionStill_lifted os started H enc)

theorem motionStill_holds : Rows.MotionStillSaid :=
  motionStill_over
#print axioms motionStill_holds
end Go.Proofs.Ytnpmllbdpmkliaa
