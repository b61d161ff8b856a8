/- How many cells and rows any format's sheets have is what the document's own table says; rows and their lines are all lines of cells; and the chapter's example comes out. No condition. -/
import Derived.Test.YtlpmkefakicpjaaRows
import Derived.Test.YtlpmkefakicpjaaFmt
import Derived.Test.YtlpmkefakicpjaaLaws
import Derived.ProofKit
namespace Go.Proofs.Ytlpmkefakicpjaa
open Go.ChangeShapes Go.WideShapes Go.ChangeAt Go.RowKit

theorem fmt_lines (k : Int) : fmtA k * 16 = fmtW k ∧ fmtD k * 16 = fmtH k ∧ fmtR k * fmtL k = fmtD k ∧ 0 ≤ fmtA k ∧ fmtA k ≤ 100 ∧ 0 ≤ fmtD k ∧ fmtD k ≤ 100 := by
  rcases fmt_cases k with rfl | rfl | rfl | rfl | rfl | rfl | ⟨h, hv⟩
  case _ | _ | _ | _ | _ | _ => decide +kernel
  unfold fmtA fmtD fmtR fmtL fmtW fmtH
  rw [hv]
  decide +kernel
set_option maxRecDepth 100000 in
set_option maxHeartbeats 2000000 in
theorem formatsRows_walk (k : Int) (_ : (Lit.int .i64 k).wf = true) (w : World) : Calls Try.prog 4 #[.int .i64 k] w fun e w' => e = .returned (.bool true) ∧ Below w.heap.size w w' := by
  have h1 := fun w => fcells_code k w
  have h2 := fun w => fpage_code k w
  have h3 := fun w => frows_code k w
  have h4 := lives16
  obtain ⟨d1, d2, d3, d4, d5, d6, d7⟩ := fmt_lines k
  unfold fmtG at h2
  generalize fmtA k = a at *
  generalize fmtD k = b at *
  generalize fmtR k = R at *
  generalize fmtL k = L at *
  generalize fmtW k = W at *
  generalize fmtH k = H at *
  go_enter Try.func4, Try.ntmps4
  go_wp2_with (first
    | (with_reducible refine (h1 _).mono ?_; rintro e w1 ⟨rfl, rfl⟩)
    | (with_reducible refine (h2 _).mono ?_; rintro e w1 ⟨rfl, hb1⟩)
    | (with_reducible refine (h3 _).mono ?_; rintro e w1 ⟨rfl, rfl⟩)
    | (with_reducible refine (h4 _).mono ?_; rintro e w1 ⟨rfl, rfl⟩))
  go_ret
  exact ⟨rfl, hb1.alloc hb1.size _⟩

theorem formatsRows_own : ownKnob Try.prog.godebug = none := by kernel_rfl
theorem formatsRows_laid : laidOutB Try.prog = true := by kernel_rfl
theorem formatsRows_reads : Try.f4.params.toList.all (fun t => Try.prog.readableRec t && decide (t < Try.prog.types.size)) = true := by kernel_rfl

set_option maxRecDepth 100000 in
theorem formatsRows_lifted (os : Os) (started : os.Started) (H : Type) (enc : TypeId × Value → H) :
    ReturnsInHanded {} Try.checked os 4 .any (Rows.formatsRowsSpec.pre6 enc Try.prog Try.f4 Rows.formatsRowsRow.domain false) (Rows.formatsRowsSpec.post enc Try.prog Try.f4 false true false false) := by
  refine returnsInHanded_of_change (C := Try.checked) formatsRows_own started (by kernel_rfl) Try.func4
    (ChangeSpec.witness6 (enc := enc) (C := Try.checked) false ⟨#[], #[.int .i64 0], []⟩ 8 (by kernel_rfl) (by kernel_rfl) (by kernel_rfl) (by kernel_rfl)) ?_
  intro W base args ds gs before hval0 hW hcnd _
  have hval : ∀ (j : Nat) t v, Try.f4.params[j]? = some t → args[j]? = some v → Value.okWide Try.prog W .any base t v := hval0
  have hW' := hW
  obtain ⟨p, q, hA0, hV, rfl, hfz, hnd⟩ := hW
  have hA : DataW.TrodAll enc Try.prog W 0 (fun _ => true) true Try.f4.params.toList args.toList ds p := hA0
  rw [Try.params4] at hA hval
  obtain ⟨v0, vs0, d0, ds0, p0, q0, hargs, rfl, rfl, h0, r0⟩ := trodAll_cons hA
  obtain ⟨rfl, rfl, rfl⟩ := trodAll_nil r0
  obtain rfl : args = #[v0] := by cases args; simp_all
  obtain ⟨rfl, rfl⟩ := trodVars_none hV
  obtain ⟨a0, rfl, rfl, rfl, w0⟩ := open_int Try.underlying3 (hval 0 3 v0 rfl rfl) h0
  clear hA0 hval0
  refine (formatsRows_walk a0 w0 W).mono fun e W' ⟨he, hb⟩ => ?_
  subst he
  exact ⟨_, rfl, law_end formatsRows_laid formatsRows_reads rfl Try.underlying4 rfl hW' rfl hb⟩

theorem formatsRows_over : Rows.formatsRowsRow.holds Try.pinned (OpenSpec.ofChange Rows.formatsRowsSpec) :=
  OpenClaim.holds_of_wide 4 Try.f4 rfl rfl rfl rfl rfl rfl rfl ⟨rfl, rfl, rfl, rfl, rfl⟩ rfl rfl rfl rfl rfl (by kernel_rfl) Try.func4 (by kernel_rfl)
    (of_decide_eq_true (by kernel_rfl)) (by unfold Func.isWrapper; first | (rw [if_pos (by decide +kernel)]; kernel_rfl) | (rw [if_neg (by decide +kernel)]; exact ⟨rfl, rfl⟩))
    (fun os started H enc _ => formatsRows_lifted os started H enc)

theorem formatsRows_holds : Rows.FormatsRowsSaid :=
  formatsRows_over
#print axioms formatsRows_holds
end Go.Proofs.Ytlpmkefakicpjaa
