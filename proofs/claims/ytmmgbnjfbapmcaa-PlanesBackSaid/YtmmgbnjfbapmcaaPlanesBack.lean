/- All cells of a frame, cut, and laid anew in any order, are the frame. No condition. -/
import Derived.Test.YtmmgbnjfbapmcaaRows
import Derived.Test.YtmmgbnjfbapmcaaPblaw
import Derived.Test.YtmmgbnjfbapmcaaLaws
import Derived.ProofKit
namespace Go.Proofs.Ytmmgbnjfbapmcaa
open Go.ChangeShapes Go.WideShapes Go.ChangeAt Go.RowKit

theorem planesBack_own : ownKnob Try.prog.godebug = none := by kernel_rfl
theorem planesBack_laid : laidOutB Try.prog = true := by kernel_rfl
theorem planesBack_reads : Try.f6.params.toList.all (fun t => Try.prog.readableRec t && decide (t < Try.prog.types.size)) = true := by kernel_rfl

set_option maxRecDepth 100000 in
theorem planesBack_lifted (os : Os) (started : os.Started) (H : Type) (enc : TypeId × Value → H) :
    ReturnsInHanded {} Try.checked os 6 .any (Rows.planesBackSpec.pre6 enc Try.prog Try.f6 Rows.planesBackRow.domain false) (Rows.planesBackSpec.post enc Try.prog Try.f6 false true false false) := by
  refine returnsInHanded_of_change (C := Try.checked) planesBack_own started (by kernel_rfl) Try.func6
    (ChangeSpec.witness6 (enc := enc) (C := Try.checked) false ⟨#[], #[.agg (frA 0 nilV), .slice none 0 0], []⟩ 8 (by kernel_rfl) (by kernel_rfl) (by kernel_rfl) (by kernel_rfl)) ?_
  intro W base args ds gs before hval0 hW hcnd _
  have hval : ∀ (j : Nat) t v, Try.f6.params[j]? = some t → args[j]? = some v → Value.okWide Try.prog W .any base t v := hval0
  have hW' := hW
  obtain ⟨p, q, hA0, hV, rfl, hfz, hnd⟩ := hW
  have hA : DataW.TrodAll enc Try.prog W 0 (fun _ => true) true Try.f6.params.toList args.toList ds p := hA0
  rw [Try.params6] at hA hval
  obtain ⟨v0, vs0, d0, ds0, p0, q0, hargs, rfl, rfl, h0, r0⟩ := trodAll_cons hA
  obtain ⟨v1, vs1, d1, ds1, p1, q1, rfl, rfl, rfl, h1, r1⟩ := trodAll_cons r0
  obtain ⟨rfl, rfl, rfl⟩ := trodAll_nil r1
  obtain rfl : args = #[v0, v1] := by cases args; simp_all
  obtain ⟨rfl, rfl⟩ := trodVars_none hV
  obtain ⟨a0, v0', n0, f0, rfl, w0, x0, y0⟩ := open_frame Try.underlying25 Try.underlying3 Try.underlying23 Try.underlying22 Try.underlying5 rfl rfl rfl rfl (by kernel_rfl) (by kernel_rfl) (by kernel_rfl) (by kernel_rfl) (by kernel_rfl) (hval 0 25 v0 rfl rfl) h0
  obtain ⟨p1, l1, c1, rfl, w1, x1⟩ := open_rows 1 _ Try.underlying58 (by kernel_rfl) (by decide) (u16_row Try.underlying59) (hval 1 58 v1 rfl rfl) h1
  clear hA0 hval0
  refine (planesBack_walk a0 v0' n0 f0 p1 l1 c1 W w0 x0 y0 x1 w1).mono fun e W' ⟨he, hb⟩ => ?_
  subst he
  exact ⟨_, rfl, law_end planesBack_laid planesBack_reads rfl Try.underlying4 rfl hW' rfl hb⟩

theorem planesBack_over : Rows.planesBackRow.holds Try.pinned (OpenSpec.ofChange Rows.planesBackSpec) :=
  OpenClaim.holds_of_wide 6 Try.f6 rfl rfl rfl rfl rfl rfl rfl ⟨rfl, rfl, rfl, rfl, rfl⟩ rfl rfl rfl rfl rfl (by kernel_rfl) Try.func6 (by kernel_rfl)
    (of_decide_eq_true (by kernel_rfl)) (by unfold Func.isWrapper; first | (rw [if_pos (by decide +kernel)]; kernel_rfl) | (rw [if_neg (by decide +kernel)]; exact ⟨rfl, rfl⟩))
    (fun os started H enc _ => planesBack_lifted os started H enc)

theorem planesBack_holds : Rows.PlanesBackSaid :=
  planesBack_over
#print axioms planesBack_holds
end Go.Proofs.Ytmmgbnjfbapmcaa
