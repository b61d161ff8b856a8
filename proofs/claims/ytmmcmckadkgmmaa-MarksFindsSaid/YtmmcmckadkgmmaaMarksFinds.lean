/- Of any text package marks finds the first byte, from any one on, at which a sheet or the end begins, as the document's own answers do; and the chapter's example comes out. Conditions: none but the law's own (texts of up to 500 bytes). -/
import Derived.Test.YtmmcmckadkgmmaaRows
import Derived.Test.YtmmcmckadkgmmaaRef4
import Derived.ChangeMaps5
namespace Go.Proofs.Ytmmcmckadkgmmaa
open Go.ChangeShapes Go.WideShapes Go.ChangeAt Go.RowKit
set_option linter.unusedVariables false

set_option maxHeartbeats 2000000 in
theorem marksFinds_walk (s : ByteArray) (start : Int) (hs : s.size ≤ maxLen) (hb : (Lit.int .i64 start).wf = true) (w : World) :
    Calls Try.prog 4 #[.string s, .int .i64 start] w fun e w' => e = .returned (.bool true) ∧ Below w.heap.size w w' := by
  unfold maxLen at hs
  by_cases hl : 500 < s.size
  · clear hb
    go_enter Try.func4, Try.ntmps4
    go_wp2_with (go_at_call 6; refine (lives4 _).mono ?_; rintro e w' ⟨rfl, hb⟩)
    go_ret
    exact ⟨rfl, hb⟩
  · have d0 : decide (500 < (s.size : Int)) = false := by simp; omega
    have hs5 : s.size ≤ 1099511627776 := by omega
    have hs1 : s.size ≤ 1048576 := by omega
    clear hb hl
    go_enter Try.func4, Try.ntmps4
    go_wp2_with fail
    refine (find_code _ s start hs5).mono ?_
    rintro e w1 ⟨⟨a, n, ok, rfl, f1⟩, hb1⟩
    have F1 := Lib.hid f1
    clear f1
    have hz1 := hb1.size
    go_wp2_with fail
    refine (show_page s hs1 _).mono ?_
    rintro e w2 ⟨rfl, hb2⟩
    have hz2 := hb2.size
    go_wp2_with fail
    refine (find_page s start hs5 _).mono ?_
    rintro e w3 ⟨⟨a', n', ok', rfl, f2⟩, rfl⟩
    obtain ⟨rfl, rfl, rfl⟩ := F1.out.one f2
    clear F1 f2
    have dok : (ok == ok) = true := by simp
    go_wp2_with fail
    refine (lives4 _).mono ?_
    rintro e w8 ⟨rfl, hb8⟩
    go_wp2
    go_ret
    exact ⟨rfl, hb1.trans ((hb2.mono (by omega)).trans (hb8.mono (by omega)))⟩

theorem marksFinds_own : ownKnob Try.prog.godebug = none := by kernel_rfl
theorem marksFinds_laid : laidOutB Try.prog = true := by kernel_rfl
theorem marksFinds_reads : Try.f4.params.toList.all (fun t => Try.prog.readableRec t && decide (t < Try.prog.types.size)) = true := by kernel_rfl

set_option maxRecDepth 100000 in
theorem marksFinds_lifted (os : Os) (started : os.Started) (H : Type) (enc : TypeId × Value → H) :
    ReturnsInHanded {} Try.checked os 4 .any (Rows.marksFindsSpec.pre6 enc Try.prog Try.f4 Rows.marksFindsRow.domain false) (Rows.marksFindsSpec.post enc Try.prog Try.f4 false true false false) := by
  refine returnsInHanded_of_change (C := Try.checked) marksFinds_own started (by kernel_rfl) Try.func4
    (ChangeSpec.witness6 (enc := enc) (C := Try.checked) false ⟨#[], #[.string ⟨#[]⟩, .int .i64 0], []⟩ 8 (by kernel_rfl) (by kernel_rfl) (by kernel_rfl) (by kernel_rfl)) ?_
  intro W base args ds gs before hval0 hW hcnd _
  have hval : ∀ (j : Nat) t v, Try.f4.params[j]? = some t → args[j]? = some v → Value.okWide Try.prog W .any base t v := hval0
  have hW' := hW
  obtain ⟨p, q, hA0, hV, rfl, hfz, hnd⟩ := hW
  have hA : DataW.TrodAll enc Try.prog W 0 (fun _ => true) true Try.f4.params.toList args.toList ds p := hA0
  rw [Try.params4] at hA hval
  obtain ⟨v0, vs0, d0, ds0, p0, q0, hargs, rfl, rfl, h0, r0⟩ := trodAll_cons hA
  obtain ⟨v1, vs1, d1, ds1, p1, q1, rfl, rfl, rfl, h1, r1⟩ := trodAll_cons r0
  obtain ⟨rfl, rfl, rfl⟩ := trodAll_nil r1
  obtain rfl : args = #[v0, v1] := by cases args; simp_all
  obtain ⟨rfl, rfl⟩ := trodVars_none hV
  obtain ⟨a0, rfl, rfl, rfl, w0⟩ := Go.ChangeMaps.open_string Try.underlying9 (hval 0 9 v0 rfl rfl) h0
  obtain ⟨a1, rfl, rfl, rfl, w1⟩ := open_int Try.underlying3 (hval 1 3 v1 rfl rfl) h1
  clear hA0 hval0
  refine (marksFinds_walk a0 a1 w0 w1 W).mono fun e W' ⟨he, hb⟩ => ?_
  subst he
  exact ⟨_, rfl, law_end marksFinds_laid marksFinds_reads rfl Try.underlying4 rfl hW' rfl hb⟩

theorem marksFinds_over : Rows.marksFindsRow.holds Try.pinned (OpenSpec.ofChange Rows.marksFindsSpec) :=
  OpenClaim.holds_of_wide 4 Try.f4 rfl rfl rfl rfl rfl rfl rfl ⟨rfl, rfl, rfl, rfl, rfl⟩ rfl rfl rfl rfl rfl (by kernel_rfl) Try.func4 (by kernel_rfl)
    (of_decide_eq_true (by kernel_rfl)) (by unfold Func.isWrapper; first | (rw [if_pos (by decide +kernel)]; kernel_rfl) | (rw [if_neg (by decide +kernel)]; exact ⟨rfl, rfl⟩))
    (fun os started H enc _ => marksFinds_lifted os started H enc)

theorem marksFinds_holds : Rows.MarksFindsSaid :=
  marksFinds_over
#print axioms marksFinds_holds
end Go.Proofs.Ytmmcmckadkgmmaa
