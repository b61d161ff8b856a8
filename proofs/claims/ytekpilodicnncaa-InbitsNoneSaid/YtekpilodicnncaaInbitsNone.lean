/- A Reader of package inbits that is nil, or zero, tells nothing; and the chapter's example comes out. No condition. -/
import Derived.Test.YtekpilodicnncaaRows
import Derived.Test.YtekpilodicnncaaRef3
import Derived.ChangeMaps5
namespace Go.Proofs.Ytekpilodicnncaa
open Go.ChangeShapes Go.WideShapes Go.ChangeAt Go.RowKit
set_option linter.unusedVariables false

theorem ask_none : ask [] 0 0 = (0, 0) ∧ askTo [] 0 0 = 0 ∧ ask [] 0 1 = (0, 2) ∧ askTo [] 0 1 = 0 := by decide
set_option maxHeartbeats 2000000 in
theorem inbitsNone_walk (n : Int) (w0 : (Lit.int .i64 n).wf = true) (w : World) :
    Calls Try.prog 5 #[.int .i64 n] w fun e w' => e = .returned (.bool true) ∧ Below w.heap.size w w' := by
  obtain ⟨a1, a2, a3, a4⟩ := ask_none
  have hr0 : IsRd (w.alloc (rdObj ⟨#[]⟩ 0)) w.heap.size ⟨#[]⟩ 0 := IsRd.fresh rfl (by decide)
  have hb0 : Below w.heap.size w (w.alloc (rdObj ⟨#[]⟩ 0)) := (Below.refl _ w).alloc (Nat.le_refl _) _
  have hz0 : (w.alloc (rdObj ⟨#[]⟩ 0)).heap.size = w.heap.size + 1 := by simp
  go_enter Try.func5, Try.ntmps5
  go_wp2_with fail
  change Calls _ _ _ (w.alloc (rdObj ⟨#[]⟩ 0)) _
  refine (take_nil _ _).mono ?_
  rintro e w1 ⟨rfl, rfl⟩
  go_wp2_with fail
  refine (peek_nil _ _).mono ?_
  rintro e w1 ⟨rfl, rfl⟩
  go_wp2_with fail
  refine (rfill_nil _).mono ?_
  rintro e w1 ⟨rfl, rfl⟩
  go_wp2_with fail
  refine (take_code _ _ _ _ _ hr0).mono ?_
  rintro e w1 ⟨rfl, hr1, hg1⟩
  rw [show (⟨#[]⟩ : ByteArray).data.toList = [] from rfl] at hr1 ⊢
  rw [a1]
  rw [a2] at hr1
  have hb1 := hb0.grown hg1 (by omega) (by intro k hk; injection hk with hk; omega)
  have hz1 := hb1.size
  go_wp2_with fail
  refine (take_code _ _ _ _ _ hr1).mono ?_
  rintro e w2 ⟨rfl, hr2, hg2⟩
  rw [show (⟨#[]⟩ : ByteArray).data.toList = [] from rfl] at hr2 ⊢
  rw [a3]
  rw [a4] at hr2
  have hb2 := hb1.grown hg2 (by omega) (by intro k hk; injection hk with hk; omega)
  have hz2 := hb2.size
  go_wp2_with fail
  refine (seek_nil _ _).mono ?_
  rintro e w3 ⟨rfl, rfl⟩
  go_wp2_with fail
  refine (at_nil _).mono ?_
  rintro e w3 ⟨rfl, rfl⟩
  go_wp2_with fail
  refine (left_nil _).mono ?_
  rintro e w3 ⟨rfl, rfl⟩
  go_wp2_with fail
  refine (rtext_nil _).mono ?_
  rintro e w3 ⟨rfl, rfl⟩
  go_wp2_with fail
  refine (left_code _ _ _ _ hr2).mono ?_
  rintro e w4 ⟨rfl, hb4⟩
  rw [show ((⟨#[]⟩ : ByteArray).size : Int) = 0 from rfl]
  have hb5 := hb2.trans (hb4.mono hz2)
  have hz5 := hb5.size
  go_wp2_with fail
  refine (lives3 _).mono ?_
  rintro e w6 ⟨rfl, hb6⟩
  go_wp2
  go_ret
  exact ⟨rfl, hb5.trans (hb6.mono hz5)⟩

theorem inbitsNone_own : ownKnob Try.prog.godebug = none := by kernel_rfl
theorem inbitsNone_laid : laidOutB Try.prog = true := by kernel_rfl
theorem inbitsNone_reads : Try.f5.params.toList.all (fun t => Try.prog.readableRec t && decide (t < Try.prog.types.size)) = true := by kernel_rfl

set_option maxRecDepth 100000 in
theorem inbitsNone_lifted (os : Os) (started : os.Started) (H : Type) (enc : TypeId × Value → H) :
    ReturnsInHanded {} Try.checked os 5 .any (Rows.inbitsNoneSpec.pre6 enc Try.prog Try.f5 Rows.inbitsNoneRow.domain false) (Rows.inbitsNoneSpec.post enc Try.prog Try.f5 false true false false) := by
  refine returnsInHanded_of_change (C := Try.checked) inbitsNone_own started (by kernel_rfl) Try.func5
    (ChangeSpec.witness6 (enc := enc) (C := Try.checked) false ⟨#[], #[.int .i64 0], []⟩ 8 (by kernel_rfl) (by kernel_rfl) (by kernel_rfl) (by kernel_rfl)) ?_
  intro W base args ds gs before hval0 hW hcnd _
  have hval : ∀ (j : Nat) t v, Try.f5.params[j]? = some t → args[j]? = some v → Value.okWide Try.prog W .any base t v := hval0
  have hW' := hW
  obtain ⟨p, q, hA0, hV, rfl, hfz, hnd⟩ := hW
  have hA : DataW.TrodAll enc Try.prog W 0 (fun _ => true) true Try.f5.params.toList args.toList ds p := hA0
  rw [Try.params5] at hA hval
  obtain ⟨v0, vs0, d0, ds0, p0, q0, hargs, rfl, rfl, h0, r0⟩ := trodAll_cons hA
  obtain ⟨rfl, rfl, rfl⟩ := trodAll_nil r0
  obtain rfl : args = #[v0] := by cases args; simp_all
  obtain ⟨rfl, rfl⟩ := trodVars_none hV
  obtain ⟨a0, rfl, rfl, rfl, w0⟩ := open_int Try.underlying3 (hval 0 3 v0 rfl rfl) h0
  clear hA0 hval0
  refine (inbitsNone_walk a0 w0 W).mono fun e W' ⟨he, hb⟩ => ?_
  subst he
  exact ⟨_, rfl, law_end inbitsNone_laid inbitsNone_reads rfl Try.underlying4 rfl hW' rfl hb⟩

theorem inbitsNone_over : Rows.inbitsNoneRow.holds Try.pinned (OpenSpec.ofChange Rows.inbitsNoneSpec) :=
  OpenClaim.holds_of_wide 5 Try.f5 rfl rfl rfl rfl rfl rfl rfl ⟨rfl, rfl, rfl, rfl, rfl⟩ rfl rfl rfl rfl rfl (by kernel_rfl) Try.func5 (by kernel_rfl)
    (of_decide_eq_true (by kernel_rfl)) (by unfold Func.isWrapper; first | (rw [if_pos (by decide +kernel)]; kernel_rfl) | (rw [if_neg (by decide +kernel)]; exact ⟨rfl, rfl⟩))
    (fun os started H enc _ => inbitsNone_lifted os started H enc)

theorem inbitsNone_holds : Rows.InbitsNoneSaid :=
  inbitsNone_over
#print axioms inbitsNone_holds
end Go.Proofs.Ytekpilodicnncaa
