/- Any cell of any frame is what the document says, or there is none. No condition. -/
import Derived.Test.YtmmgbnjfbapmcaaRows
import Derived.Test.YtmmgbnjfbapmcaaPclaw
import Derived.Test.YtmmgbnjfbapmcaaLaws
import Derived.ProofKit
namespace Go.Proofs.Ytmmgbnjfbapmcaa
open Go.ChangeShapes Go.WideShapes Go.ChangeAt Go.RowKit

theorem planesCuts_own : ownKnob Try.prog.godebug = none := by kernel_rfl
theorem planesCuts_laid : laidOutB Try.prog = true := by kernel_rfl
theorem planesCuts_reads : Try.f4.params.toList.all (fun t => Try.prog.readableRec t && decide (t < Try.prog.types.size)) = true := by kernel_rfl

set_option maxRecDepth 100000 in
theorem planesCuts_lifted (os : Os) (started : os.Started) (H : Type) (enc : TypeId × Value → H) :
    ReturnsInHanded {} Try.checked os 4 .any (Rows.planesCutsSpec.pre6 enc Try.prog Try.f4 Rows.planesCutsRow.domain false) (Rows.planesCutsSpec.post enc Try.prog Try.f4 false true false false) := by
  refine returnsInHanded_of_change (C := Try.checked) planesCuts_own started (by kernel_rfl) Try.func4
    (ChangeSpec.witness6 (enc := enc) (C := Try.checked) false ⟨#[], #[.agg (frA 0 nilV), .int .i64 0], []⟩ 8 (by kernel_rfl) (by kernel_rfl) (by kernel_rfl) (by kernel_rfl)) ?_
  intro W base args ds gs before hval0 hW hcnd _
  have hval : ∀ (j : Nat) t v, Try.f4.params[j]? = some t → args[j]? = some v → Value.okWide Try.prog W .any base t v := hval0
  have hW' := hW
  obtain ⟨p, q, hA0, hV, rfl, hfz, hnd⟩ := hW
  have hA : DataW.TrodAll enc Try.prog W 0 (fun _ => true) true Try.f4.params.toList args.toList ds p := hA0
  rw [Try.params4] at hA hval
  obtain ⟨v0, vs0, d0, ds0, p0, q0, hargs, rfl, rfl, h0, r0⟩ := trodAll_cons hA
  obtain ⟨v1, vs1, d1, ds1, p1, q1, rfl, rfl, rfl, h1, r1⟩ := trodAll_cons r0
  obtain ⟨rfl, rfl, rfl⟩ := trodAll_nil r1
  obtain rfl : args = #[v0, v1] := by cases args; simp_all
  obtain ⟨rfl, rfl⟩ := trodVars_none hV
  obtain ⟨a0, v0', n0, f0, rfl, w0, x0, y0⟩ := open_frame Try.underlying25 Try.underlying3 Try.underlying23 Try.underlying22 Try.underlying5 rfl rfl rfl rfl (by kernel_rfl) (by kernel_rfl) (by kernel_rfl) (by kernel_rfl) (by kernel_rfl) (hval 0 25 v0 rfl rfl) h0
  obtain ⟨a1, rfl, rfl, rfl, w1⟩ := open_int Try.underlying3 (hval 1 3 v1 rfl rfl) h1
  clear hA0 hval0
  refine (planesCuts_walk a0 v0' n0 f0 a1 W w0 x0 y0 w1).mono fun e W' ⟨he, hb⟩ => ?_
  subst he
  exact ⟨_, rfl, law_end planesCuts_laid planesCuts_reads rfl Try.underlying4 rfl hW' rfl hb⟩

theorem planesCuts_over : Rows.planesCutsRow.holds Try.pinned (OpenSpec.ofChange Rows.planesCutsSpec) :=
  OpenClaim.holds_of_wide 4 Try.f4 rfl rfl rfl rfl rfl rfl rfl ⟨rfl, rfl, rfl, rfl, rfl⟩ rfl rfl rfl rfl rfl (by kernel_rfl) Try.func4 (by kernel_rfl)
    (of_decide_eq_true (by kernel_rfl)) (by unfold Func.isWrapper; first | (rw [if_pos (by decide +kernel)]; kernel_rfl) | (rw [if_neg (by decide +kernel)]; exact ⟨rfl, rfl⟩))
    (fun os started H enc _ => planesCuts_lifted os started H enc)

theorem planesCuts_holds : Rows.PlanesCutsSaid :=
  planesCuts_over
#print axioms planesCuts_holds
end Go.Proofs.Ytmmgbnjfbapmcaa
