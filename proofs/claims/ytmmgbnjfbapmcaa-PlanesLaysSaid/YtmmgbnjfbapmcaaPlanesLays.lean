/- Whatever is laid on a canvas, it is what the page says; what was told of it stays as it was. No condition. -/
import Derived.Test.YtmmgbnjfbapmcaaRows
import Derived.Test.YtmmgbnjfbapmcaaPlawl
import Derived.Test.YtmmgbnjfbapmcaaLaws
import Derived.ProofKit
namespace Go.Proofs.Ytmmgbnjfbapmcaa
open Go.ChangeShapes Go.WideShapes Go.ChangeAt Go.RowKit

theorem planesLays_own : ownKnob Try.prog.godebug = none := by kernel_rfl
theorem planesLays_laid : laidOutB Try.prog = true := by kernel_rfl
theorem planesLays_reads : Try.f5.params.toList.all (fun t => Try.prog.readableRec t && decide (t < Try.prog.types.size)) = true := by kernel_rfl

set_option maxRecDepth 100000 in
theorem planesLays_lifted (os : Os) (started : os.Started) (H : Type) (enc : TypeId × Value → H) :
    ReturnsInHanded {} Try.checked os 5 .any (Rows.planesLaysSpec.pre6 enc Try.prog Try.f5 Rows.planesLaysRow.domain false) (Rows.planesLaysSpec.post enc Try.prog Try.f5 false true false false) := by
  refine returnsInHanded_of_change (C := Try.checked) planesLays_own started (by kernel_rfl) Try.func5
    (ChangeSpec.witness6 (enc := enc) (C := Try.checked) false ⟨#[], #[.int .i64 0, .slice none 0 0], []⟩ 8 (by kernel_rfl) (by kernel_rfl) (by kernel_rfl) (by kernel_rfl)) ?_
  intro W base args ds gs before hval0 hW hcnd _
  have hval : ∀ (j : Nat) t v, Try.f5.params[j]? = some t → args[j]? = some v → Value.okWide Try.prog W .any base t v := hval0
  have hW' := hW
  obtain ⟨p, q, hA0, hV, rfl, hfz, hnd⟩ := hW
  have hA : DataW.TrodAll enc Try.prog W 0 (fun _ => true) true Try.f5.params.toList args.toList ds p := hA0
  rw [Try.params5] at hA hval
  obtain ⟨v0, vs0, d0, ds0, p0, q0, hargs, rfl, rfl, h0, r0⟩ := trodAll_cons hA
  obtain ⟨v1, vs1, d1, ds1, p1, q1, rfl, rfl, rfl, h1, r1⟩ := trodAll_cons r0
  obtain ⟨rfl, rfl, rfl⟩ := trodAll_nil r1
  obtain rfl : args = #[v0, v1] := by cases args; simp_all
  obtain ⟨rfl, rfl⟩ := trodVars_none hV
  obtain ⟨a0, rfl, rfl, rfl, w0⟩ := open_int Try.underlying3 (hval 0 3 v0 rfl rfl) h0
  obtain ⟨p1, l1, c1, rfl, w1, x1⟩ := open_rows 2 _ Try.underlying42 (by kernel_rfl) (by decide) (piece_row Try.underlying54 Try.underlying3 Try.underlying52 rfl rfl rfl rfl (by kernel_rfl) (by kernel_rfl)) (hval 1 42 v1 rfl rfl) h1
  clear hA0 hval0
  refine (planesLays_walk a0 p1 l1 c1 W w0 x1 w1).mono fun e W' ⟨he, hb⟩ => ?_
  subst he
  exact ⟨_, rfl, law_end planesLays_laid planesLays_reads rfl Try.underlying4 rfl hW' rfl hb⟩

theorem planesLays_over : Rows.planesLaysRow.holds Try.pinned (OpenSpec.ofChange Rows.planesLaysSpec) :=
  OpenClaim.holds_of_wide 5 Try.f5 rfl rfl rfl rfl rfl rfl rfl ⟨rfl, rfl, rfl, rfl, rfl⟩ rfl rfl rfl rfl rfl (by kernel_rfl) Try.func5 (by kernel_rfl)
    (of_decide_eq_true (by kernel_rfl)) (by unfold Func.isWrapper; first | (rw [if_pos (by decide +kernel)]; kernel_rfl) | (rw [if_neg (by decide +kernel)]; exact ⟨rfl, rfl⟩))
    (fun os started H enc _ => planesLays_lifted os started H enc)

theorem planesLays_holds : Rows.PlanesLaysSaid :=
  planesLays_over
#print axioms planesLays_holds
end Go.Proofs.Ytmmgbnjfbapmcaa
