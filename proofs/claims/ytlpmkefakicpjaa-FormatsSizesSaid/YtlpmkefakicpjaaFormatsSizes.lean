/- How great any format's sheets are, and their planes, is what the document's own table says; and the chapter's example comes out. No condition. -/
import Derived.Test.YtlpmkefakicpjaaRows
import Derived.Test.YtlpmkefakicpjaaFmt
import Derived.Test.YtlpmkefakicpjaaLaws
import Derived.ProofKit
namespace Go.Proofs.Ytlpmkefakicpjaa
open Go.ChangeShapes Go.WideShapes Go.ChangeAt Go.RowKit

theorem fmt_tests (k : Int) : (isFmt k == decide (0 < fmtW k)) = true ∧ 0 ≤ fmtW k ∧ fmtW k ≤ 2000 ∧ 0 ≤ fmtH k ∧ fmtH k ≤ 2000 ∧ fmtW k / 2 * 2 = fmtW k ∧ fmtH k / 2 * 2 = fmtH k := by
  rcases fmt_cases k with rfl | rfl | rfl | rfl | rfl | rfl | ⟨h, hv⟩
  case _ | _ | _ | _ | _ | _ => decide +kernel
  unfold fmtW fmtH
  rw [h, hv]
  decide +kernel
set_option maxRecDepth 100000 in
set_option maxHeartbeats 2000000 in
theorem formatsSizes_walk (k p : Int) (_ : (Lit.int .i64 k).wf = true) (_ : (Lit.int .i64 p).wf = true) (w : World) : Calls Try.prog 3 #[.int .i64 k, .int .i64 p] w fun e w' => e = .returned (.bool true) ∧ Below w.heap.size w w' := by
  have h1 := fun w => fsize_code k w
  have h2 := fun w => fpage_code k w
  have h3 := fun w => fplane_code k p w
  have h4 := lives16
  obtain ⟨d1, d2, d3, d4, d5, d6, d7⟩ := fmt_tests k
  unfold fmtG at h2
  unfold fmtP at h3
  generalize fmtW k / 2 = a at *
  generalize fmtH k / 2 = b at *
  generalize fmtR k = R at *
  generalize fmtL k = L at *
  generalize fmtW k = W at *
  generalize fmtH k = H at *
  generalize isFmt k = q at *
  by_cases c0 : p = 0
  · subst c0
    go_enter Try.func3, Try.ntmps3
    go_wp2_with (first
      | (with_reducible refine (h1 _).mono ?_; rintro e w1 ⟨rfl, rfl⟩)
      | (with_reducible refine (h2 _).mono ?_; rintro e w1 ⟨rfl, hb1⟩)
      | (with_reducible refine (h3 _).mono ?_; rintro e w1 ⟨rfl, rfl⟩)
      | (with_reducible refine (h4 _).mono ?_; rintro e w1 ⟨rfl, rfl⟩))
    go_ret
    exact ⟨rfl, hb1.alloc hb1.size _⟩
  by_cases c1 : p = 1
  · subst c1
    go_enter Try.func3, Try.ntmps3
    go_wp2_with (first
      | (with_reducible refine (h1 _).mono ?_; rintro e w1 ⟨rfl, rfl⟩)
      | (with_reducible refine (h2 _).mono ?_; rintro e w1 ⟨rfl, hb1⟩)
      | (with_reducible refine (h3 _).mono ?_; rintro e w1 ⟨rfl, rfl⟩)
      | (with_reducible refine (h4 _).mono ?_; rintro e w1 ⟨rfl, rfl⟩))
    go_ret
    exact ⟨rfl, hb1.alloc hb1.size _⟩
  by_cases c2 : p = 2
  · subst c2
    go_enter Try.func3, Try.ntmps3
    go_wp2_with (first
      | (with_reducible refine (h1 _).mono ?_; rintro e w1 ⟨rfl, rfl⟩)
      | (with_reducible refine (h2 _).mono ?_; rintro e w1 ⟨rfl, hb1⟩)
      | (with_reducible refine (h3 _).mono ?_; rintro e w1 ⟨rfl, rfl⟩)
      | (with_reducible refine (h4 _).mono ?_; rintro e w1 ⟨rfl, rfl⟩))
    go_ret
    exact ⟨rfl, hb1.alloc hb1.size _⟩
  rw [if_neg c0, if_neg (by omega)] at h3
  have t0 : (p == 0) = false := by simpa using c0
  have t1 : (p == 1) = false := by simpa using c1
  have t2 : (p == 2) = false := by simpa using c2
  clear c0 c1 c2
  · go_enter Try.func3, Try.ntmps3
    go_wp2_with (first
      | (with_reducible refine (h1 _).mono ?_; rintro e w1 ⟨rfl, rfl⟩)
      | (with_reducible refine (h2 _).mono ?_; rintro e w1 ⟨rfl, hb1⟩)
      | (with_reducible refine (h3 _).mono ?_; rintro e w1 ⟨rfl, rfl⟩)
      | (with_reducible refine (h4 _).mono ?_; rintro e w1 ⟨rfl, rfl⟩))
    go_ret
    exact ⟨rfl, hb1.alloc hb1.size _⟩

theorem formatsSizes_own : ownKnob Try.prog.godebug = none := by kernel_rfl
theorem formatsSizes_laid : laidOutB Try.prog = true := by kernel_rfl
theorem formatsSizes_reads : Try.f3.params.toList.all (fun t => Try.prog.readableRec t && decide (t < Try.prog.types.size)) = true := by kernel_rfl

set_option maxRecDepth 100000 in
theorem formatsSizes_lifted (os : Os) (started : os.Started) (H : Type) (enc : TypeId × Value → H) :
    ReturnsInHanded {} Try.checked os 3 .any (Rows.formatsSizesSpec.pre6 enc Try.prog Try.f3 Rows.formatsSizesRow.domain false) (Rows.formatsSizesSpec.post enc Try.prog Try.f3 false true false false) := by
  refine returnsInHanded_of_change (C := Try.checked) formatsSizes_own started (by kernel_rfl) Try.func3
    (ChangeSpec.witness6 (enc := enc) (C := Try.checked) false ⟨#[], #[.int .i64 0, .int .i64 0], []⟩ 8 (by kernel_rfl) (by kernel_rfl) (by kernel_rfl) (by kernel_rfl)) ?_
  intro W base args ds gs before hval0 hW hcnd _
  have hval : ∀ (j : Nat) t v, Try.f3.params[j]? = some t → args[j]? = some v → Value.okWide Try.prog W .any base t v := hval0
  have hW' := hW
  obtain ⟨p, q, hA0, hV, rfl, hfz, hnd⟩ := hW
  have hA : DataW.TrodAll enc Try.prog W 0 (fun _ => true) true Try.f3.params.toList args.toList ds p := hA0
  rw [Try.params3] at hA hval
  obtain ⟨v0, vs0, d0, ds0, p0, q0, hargs, rfl, rfl, h0, r0⟩ := trodAll_cons hA
  obtain ⟨v1, vs1, d1, ds1, p1, q1, rfl, rfl, rfl, h1, r1⟩ := trodAll_cons r0
  obtain ⟨rfl, rfl, rfl⟩ := trodAll_nil r1
  obtain rfl : args = #[v0, v1] := by cases args; simp_all
  obtain ⟨rfl, rfl⟩ := trodVars_none hV
  obtain ⟨a0, rfl, rfl, rfl, w0⟩ := open_int Try.underlying3 (hval 0 3 v0 rfl rfl) h0
  obtain ⟨a1, rfl, rfl, rfl, w1⟩ := open_int Try.underlying3 (hval 1 3 v1 rfl rfl) h1
  clear hA0 hval0
  refine (formatsSizes_walk a0 a1 w0 w1 W).mono fun e W' ⟨he, hb⟩ => ?_
  subst he
  exact ⟨_, rfl, law_end formatsSizes_laid formatsSizes_reads rfl Try.underlying4 rfl hW' rfl hb⟩

theorem formatsSizes_over : Rows.formatsSizesRow.holds Try.pinned (OpenSpec.ofChange Rows.formatsSizesSpec) :=
  OpenClaim.holds_of_wide 3 Try.f3 rfl rfl rfl rfl rfl rfl rfl ⟨rfl, rfl, rfl, rfl, rfl⟩ rfl rfl rfl rfl rfl (by kernel_rfl) Try.func3 (by kernel_rfl)
    (of_decide_eq_true (by kernel_rfl)) (by unfold Func.isWrapper; first | (rw [if_pos (by decide +kernel)]; kernel_rfl) | (rw [if_neg (by decide +kernel)]; exact ⟨rfl, rfl⟩))
    (fun os started H enc _ => formatsSizes_lifted os started H enc)

theorem formatsSizes_holds : Rows.FormatsSizesSaid :=
  formatsSizes_over
#print axioms formatsSizes_holds
end Go.Proofs.Ytlpmkefakicpjaa
