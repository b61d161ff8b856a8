/- Of any two numbers and any text package outbits tells the row, the bytes and the bits that the document's own answers tell, or ErrArg where they are none; and the chapter's examples come out. Conditions: none but the law's own (texts of up to 2,000 bytes). -/
import Derived.Test.YtgapoimickgbbaaRows
import Derived.Test.YtgapoimickgbbaaPack
import Derived.ChangeMaps5
namespace Go.Proofs.Ytgapoimickgbbaa
open Go.ChangeShapes Go.WideShapes Go.ChangeAt Go.RowKit
set_option linter.unusedVariables false

set_option maxHeartbeats 2000000 in
theorem outbitsRows_walk (v n : Int) (s : ByteArray) (w0 : (Lit.int .i64 v).wf = true) (w1 : (Lit.int .i64 n).wf = true) (w2 : s.size ≤ maxLen) (w : World) :
    Calls Try.prog 3 #[.int .i64 v, .int .i64 n, .string s] w fun e w' => e = .returned (.bool true) ∧ Below w.heap.size w w' := by
  have v2 := (i64_most w0).2
  unfold maxLen at w2
  by_cases hl : 2000 < s.size
  · go_enter Try.func3, Try.ntmps3
    go_wp2_with (go_at_call 6; refine (lives2 _).mono ?_; rintro e w' ⟨rfl, hb⟩)
    go_ret
    exact ⟨rfl, hb⟩
  · have hl2 : s.size ≤ 2000 := by omega
    cases hf : fitsIn v n with
    | true =>
      obtain ⟨n0, n1, v0, _⟩ := fits_parts hf
      have F := Lib.hid hf
      clear hf
      cases hr : isRow s.data.toList with
      | true =>
        have R := Lib.hid hr
        clear hr
        go_enter Try.func3, Try.ntmps3
        go_wp2_with fail
        refine (row_code v n _ v2 F.out).mono ?_
        rintro e w1 ⟨rfl, hb1⟩
        have z1 := hb1.size
        go_wp2_with fail
        refine (fits_page v n v2 _).mono ?_
        rintro e w' ⟨rfl, rfl⟩
        rw [F.out]
        go_wp2_with fail
        refine (row_page v n v0 v2 n0 n1 _).mono ?_
        rintro e w' ⟨rfl, rfl⟩
        go_wp2_with fail
        refine (pack_code _ s R.out (by omega)).mono ?_
        rintro e w2 ⟨rfl, hb2⟩
        have z2 := hb2.size
        go_wp2_with fail
        refine (plain_page s (by unfold maxLen; omega) _).mono ?_
        rintro e w' ⟨rfl, rfl⟩
        rw [R.out]
        go_wp2_with fail
        refine (pack_page s (by omega) R.out _).mono ?_
        rintro e w3 ⟨rfl, hb3⟩
        have z3 := hb3.size
        go_wp2_with fail
        refine (show_code s (by omega) _).mono ?_
        rintro e w4 ⟨rfl, hb4⟩
        have z4 := hb4.size
        go_wp2_with fail
        refine (show_page s (by omega) _).mono ?_
        rintro e w5 ⟨rfl, hb5⟩
        have z5 := hb5.size
        go_wp2_with fail
        refine (lives2 _).mono ?_
        rintro e w6 ⟨rfl, hb6⟩
        go_wp2
        go_ret
        exact ⟨rfl, hb1.trans ((hb2.mono (by omega)).trans ((hb3.mono (by omega)).trans ((hb4.mono (by omega)).trans ((hb5.mono (by omega)).trans (hb6.mono (by omega))))))⟩
      | false =>
        have R := Lib.hid hr
        clear hr
        go_enter Try.func3, Try.ntmps3
        go_wp2_with fail
        refine (row_code v n _ v2 F.out).mono ?_
        rintro e w1 ⟨rfl, hb1⟩
        have z1 := hb1.size
        go_wp2_with fail
        refine (fits_page v n v2 _).mono ?_
        rintro e w' ⟨rfl, rfl⟩
        rw [F.out]
        go_wp2_with fail
        refine (row_page v n v0 v2 n0 n1 _).mono ?_
        rintro e w' ⟨rfl, rfl⟩
        go_wp2_with fail
        refine (pack_none _ s R.out).mono ?_
        rintro e w2 ⟨rfl, hb2⟩
        have z2 := hb2.size
        go_wp2_with fail
        refine (plain_page s (by unfold maxLen; omega) _).mono ?_
        rintro e w' ⟨rfl, rfl⟩
        rw [R.out]
        go_wp2_with fail
        refine (show_code s (by omega) _).mono ?_
        rintro e w4 ⟨rfl, hb4⟩
        have z4 := hb4.size
        go_wp2_with fail
        refine (show_page s (by omega) _).mono ?_
        rintro e w5 ⟨rfl, hb5⟩
        have z5 := hb5.size
        go_wp2_with fail
        refine (lives2 _).mono ?_
        rintro e w6 ⟨rfl, hb6⟩
        go_wp2
        go_ret
        exact ⟨rfl, hb1.trans ((hb2.mono (by omega)).trans ((hb4.mono (by omega)).trans ((hb5.mono (by omega)).trans (hb6.mono (by omega)))))⟩
    | false =>
      have F := Lib.hid hf
      clear hf
      cases hr : isRow s.data.toList with
      | true =>
        have R := Lib.hid hr
        clear hr
        go_enter Try.func3, Try.ntmps3
        go_wp2_with fail
        refine (row_none v n _ v2 F.out).mono ?_
        rintro e w1 ⟨rfl, rfl⟩
        go_wp2_with fail
        refine (fits_page v n v2 _).mono ?_
        rintro e w' ⟨rfl, rfl⟩
        rw [F.out]
        go_wp2_with fail
        refine (pack_code _ s R.out (by omega)).mono ?_
        rintro e w2 ⟨rfl, hb2⟩
        have z2 := hb2.size
        go_wp2_with fail
        refine (plain_page s (by unfold maxLen; omega) _).mono ?_
        rintro e w' ⟨rfl, rfl⟩
        rw [R.out]
        go_wp2_with fail
        refine (pack_page s (by omega) R.out _).mono ?_
        rintro e w3 ⟨rfl, hb3⟩
        have z3 := hb3.size
        go_wp2_with fail
        refine (show_code s (by omega) _).mono ?_
        rintro e w4 ⟨rfl, hb4⟩
        have z4 := hb4.size
        go_wp2_with fail
        refine (show_page s (by omega) _).mono ?_
        rintro e w5 ⟨rfl, hb5⟩
        have z5 := hb5.size
        go_wp2_with fail
        refine (lives2 _).mono ?_
        rintro e w6 ⟨rfl, hb6⟩
        go_wp2
        go_ret
        exact ⟨rfl, hb2.trans ((hb3.mono (by omega)).trans ((hb4.mono (by omega)).trans ((hb5.mono (by omega)).trans (hb6.mono (by omega)))))⟩
      | false =>
        have R := Lib.hid hr
        clear hr
        go_enter Try.func3, Try.ntmps3
        go_wp2_with fail
        refine (row_none v n _ v2 F.out).mono ?_
        rintro e w1 ⟨rfl, rfl⟩
        go_wp2_with fail
        refine (fits_page v n v2 _).mono ?_
        rintro e w' ⟨rfl, rfl⟩
        rw [F.out]
        go_wp2_with fail
        refine (pack_none _ s R.out).mono ?_
        rintro e w2 ⟨rfl, hb2⟩
        have z2 := hb2.size
        go_wp2_with fail
        refine (plain_page s (by unfold maxLen; omega) _).mono ?_
        rintro e w' ⟨rfl, rfl⟩
        rw [R.out]
        go_wp2_with fail
        refine (show_code s (by omega) _).mono ?_
        rintro e w4 ⟨rfl, hb4⟩
        have z4 := hb4.size
        go_wp2_with fail
        refine (show_page s (by omega) _).mono ?_
        rintro e w5 ⟨rfl, hb5⟩
        have z5 := hb5.size
        go_wp2_with fail
        refine (lives2 _).mono ?_
        rintro e w6 ⟨rfl, hb6⟩
        go_wp2
        go_ret
        exact ⟨rfl, hb2.trans ((hb4.mono (by omega)).trans ((hb5.mono (by omega)).trans (hb6.mono (by omega))))⟩

theorem outbitsRows_own : ownKnob Try.prog.godebug = none := by kernel_rfl
theorem outbitsRows_laid : laidOutB Try.prog = true := by kernel_rfl
theorem outbitsRows_reads : Try.f3.params.toList.all (fun t => Try.prog.readableRec t && decide (t < Try.prog.types.size)) = true := by kernel_rfl

set_option maxRecDepth 100000 in
theorem outbitsRows_lifted (os : Os) (started : os.Started) (H : Type) (enc : TypeId × Value → H) :
    ReturnsInHanded {} Try.checked os 3 .any (Rows.outbitsRowsSpec.pre6 enc Try.prog Try.f3 Rows.outbitsRowsRow.domain false) (Rows.outbitsRowsSpec.post enc Try.prog Try.f3 false true false false) := by
  refine returnsInHanded_of_change (C := Try.checked) outbitsRows_own started (by kernel_rfl) Try.func3
    (ChangeSpec.witness6 (enc := enc) (C := Try.checked) false ⟨#[], #[.int .i64 0, .int .i64 0, .string ⟨#[]⟩], []⟩ 8 (by kernel_rfl) (by kernel_rfl) (by kernel_rfl) (by kernel_rfl)) ?_
  intro W base args ds gs before hval0 hW hcnd _
  have hval : ∀ (j : Nat) t v, Try.f3.params[j]? = some t → args[j]? = some v → Value.okWide Try.prog W .any base t v := hval0
  have hW' := hW
  obtain ⟨p, q, hA0, hV, rfl, hfz, hnd⟩ := hW
  have hA : DataW.TrodAll enc Try.prog W 0 (fun _ => true) true Try.f3.params.toList args.toList ds p := hA0
  rw [Try.params3] at hA hval
  obtain ⟨v0, vs0, d0, ds0, p0, q0, hargs, rfl, rfl, h0, r0⟩ := trodAll_cons hA
  obtain ⟨v1, vs1, d1, ds1, p1, q1, rfl, rfl, rfl, h1, r1⟩ := trodAll_cons r0
  obtain ⟨v2, vs2, d2, ds2, p2, q2, rfl, rfl, rfl, h2, r2⟩ := trodAll_cons r1
  obtain ⟨rfl, rfl, rfl⟩ := trodAll_nil r2
  obtain rfl : args = #[v0, v1, v2] := by cases args; simp_all
  obtain ⟨rfl, rfl⟩ := trodVars_none hV
  obtain ⟨a0, rfl, rfl, rfl, w0⟩ := open_int Try.underlying3 (hval 0 3 v0 rfl rfl) h0
  obtain ⟨a1, rfl, rfl, rfl, w1⟩ := open_int Try.underlying3 (hval 1 3 v1 rfl rfl) h1
  obtain ⟨a2, rfl, rfl, rfl, w2⟩ := Go.ChangeMaps.open_string Try.underlying9 (hval 2 9 v2 rfl rfl) h2
  clear hA0 hval0
  refine (outbitsRows_walk a0 a1 a2 w0 w1 w2 W).mono fun e W' ⟨he, hb⟩ => ?_
  subst he
  exact ⟨_, rfl, law_end outbitsRows_laid outbitsRows_reads rfl Try.underlying4 rfl hW' rfl hb⟩

theorem outbitsRows_over : Rows.outbitsRowsRow.holds Try.pinned (OpenSpec.ofChange Rows.outbitsRowsSpec) :=
  OpenClaim.holds_of_wide 3 Try.f3 rfl rfl rfl rfl rfl rfl rfl ⟨rfl, rfl, rfl, rfl, rfl⟩ rfl rfl rfl rfl rfl (by kernel_rfl) Try.func3 (by kernel_rfl)
    (of_decide_eq_true (by kernel_rfl)) (by unfold Func.isWrapper; first | (rw [if_pos (by decide +kernel)]; kernel_rfl) | (rw [if_neg (by decide +kernel)]; exact ⟨rfl, rfl⟩))
    (fun os started H enc _ => outbitsRows_lifted os started H enc)

theorem outbitsRows_holds : Rows.OutbitsRowsSaid :=
  outbitsRows_over
#print axioms outbitsRows_holds
end Go.Proofs.Ytgapoimickgbbaa
