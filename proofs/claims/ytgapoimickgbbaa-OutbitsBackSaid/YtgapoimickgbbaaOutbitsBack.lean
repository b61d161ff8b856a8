/- Of any text package outbits tells bytes, and these show the text again with fewer than eight noughts behind it; of a text that is no row it tells nothing; and the chapter's examples come out. Conditions: none but the law's own (texts of up to 2,000 bytes). -/
import Derived.Test.YtgapoimickgbbaaRows
import Derived.Test.YtgapoimickgbbaaPack
import Derived.Test.YtgapoimickgbbaaBack
import Derived.ChangeMaps5
namespace Go.Proofs.Ytgapoimickgbbaa
open Go.ChangeShapes Go.WideShapes Go.ChangeAt Go.RowKit
set_option linter.unusedVariables false

set_option maxHeartbeats 2000000 in
theorem outbitsBack_walk (s : ByteArray) (w2 : s.size ≤ maxLen) (w : World) :
    Calls Try.prog 5 #[.string s] w fun e w' => e = .returned (.bool true) ∧ Below w.heap.size w w' := by
  unfold maxLen at w2
  by_cases hl : 2000 < s.size
  · go_enter Try.func5, Try.ntmps5
    go_wp2_with (go_at_call 6; refine (lives2 _).mono ?_; rintro e w' ⟨rfl, hb⟩)
    go_ret
    exact ⟨rfl, hb⟩
  · have hl2 : s.size ≤ 2000 := by omega
    cases hr : isRow s.data.toList with
    | false =>
      have R := Lib.hid hr
      clear hr
      go_enter Try.func5, Try.ntmps5
      go_wp2_with fail
      refine (pack_none _ s R.out).mono ?_
      rintro e w2 ⟨rfl, hb2⟩
      have z2 := hb2.size
      go_wp2_with fail
      refine (lives2 _).mono ?_
      rintro e w6 ⟨rfl, hb6⟩
      go_wp2
      go_ret
      exact ⟨rfl, hb2.trans (hb6.mono (by omega))⟩
    | true =>
      have R := Lib.hid hr
      clear hr
      obtain ⟨l, rfl⟩ := list_of s
      have hsz : l.length ≤ 2000 := by rw [size_mk] at hl2; exact hl2
      have R : Hid (isRow l = true) := R
      go_enter Try.func5, Try.ntmps5
      go_wp2_with fail
      refine (pack_code _ ⟨l.toArray⟩ R.out (by rw [size_mk]; omega)).mono ?_
      rintro e w2 ⟨rfl, hb2⟩
      have z2 := hb2.size
      have hpl : (packL l).length ≤ 1048576 := by rw [packL_length]; omega
      go_wp2_with fail
      refine (show_code _ (by rw [size_mk]; exact hpl) _).mono ?_
      rintro e w4 ⟨rfl, hb4⟩
      have z4 := hb4.size
      rw [show (⟨(packL l).toArray⟩ : ByteArray).data.toList = packL l from rfl, show_pack l R.out]
      obtain ⟨k, hk⟩ : ∃ k, (8 - l.length % 8) % 8 = k := ⟨_, rfl⟩
      have hk7 : k ≤ 7 := by omega
      have hpad : padL l = l ++ List.replicate k 48 := by unfold padL; rw [hk]
      obtain ⟨q, hq⟩ : ∃ q, padL l = q := ⟨_, rfl⟩
      have hql : q.length = l.length + k := by rw [← hq, hpad]; simp
      have q1 : l.length ≤ q.length := by omega
      have q2 : q.length ≤ l.length + 7 := by omega
      have hcut : (⟨q.toArray⟩ : ByteArray).extract 0 l.length = ⟨l.toArray⟩ := by
        rw [bytes_extract, ← hq, hpad, List.drop_zero, List.take_append_of_le_length (Nat.le_refl _), List.take_of_length_le (Nat.le_refl _)]
      have hb : ∀ i, l.length ≤ i → (hi : i < q.length) → q[i] = 48 := by
        intro i h1 h2
        have e : q[i]? = some 48 := by rw [← hq, hpad, List.getElem?_append_right h1, List.getElem?_replicate, if_pos (by omega)]
        exact (List.getElem?_eq_some_iff.1 e).2
      rw [hq]
      obtain ⟨S, hS⟩ : ∃ S : ByteArray, (⟨q.toArray⟩ : ByteArray) = S := ⟨_, rfl⟩
      have hsq : S.size = q.length := by rw [← hS]; exact size_mk q
      have hbS : ∀ i, l.length ≤ i → (hi : i < S.size) → ((S[i].toNat : Int) != 48) = false := by
        intro i h1 h2
        subst hS
        have e : (⟨q.toArray⟩ : ByteArray)[i] = q[i]'(by rw [size_mk] at h2; exact h2) := rfl
        rw [e, hb i h1 (by rw [size_mk] at h2; exact h2)]
        rfl
      have hne : (!(S.extract 0 l.length).toList == l) = false := by rw [← hS, hcut, ByteArray.toList_eq]; simp
      have HB := Lib.hid hbS
      have s1 : l.length ≤ S.size := by omega
      have s2 : S.size ≤ l.length + 7 := by omega
      rw [hS]
      have d1 : decide (S.size < l.length) = false := by simpa using s1
      have d2 : decide (((l.length : Int) + 7) < (S.size : Int)) = false := by simp; omega
      clear hb hbS hql hpad hq hk hcut hS hsq q1 q2
      go_wp2_with fail
      go_loopw [6] (fun i wr => ∃ j : Nat, l.length ≤ j ∧ j ≤ S.size ∧ i = .int .i64 j ∧ w4 = wr) (fun i _ => S.size - (intOf i).toNat)
      case atStart => exact ⟨_, Nat.le_refl _, s1, rfl, rfl⟩
      case round =>
        obtain ⟨j, hj1, hj2, rfl, rfl⟩ := hrel
        by_cases hlt : j < S.size
        · have h48 := HB.out j hj1 hlt
          go_wp2_with fail
          go_roundw
          case rel => exact ⟨j + 1, by omega, by omega, by go_num, trivial⟩
          case measure => simp [intOf]; omega
        · go_wp2_with fail
          refine (lives2 _).mono ?_
          rintro e w6 ⟨rfl, hb6⟩
          go_wp2
          go_ret
          exact ⟨rfl, hb2.trans ((hb4.mono (by omega)).trans (hb6.mono (by omega)))⟩

theorem outbitsBack_own : ownKnob Try.prog.godebug = none := by kernel_rfl
theorem outbitsBack_laid : laidOutB Try.prog = true := by kernel_rfl
theorem outbitsBack_reads : Try.f5.params.toList.all (fun t => Try.prog.readableRec t && decide (t < Try.prog.types.size)) = true := by kernel_rfl

set_option maxRecDepth 100000 in
theorem outbitsBack_lifted (os : Os) (started : os.Started) (H : Type) (enc : TypeId × Value → H) :
    ReturnsInHanded {} Try.checked os 5 .any (Rows.outbitsBackSpec.pre6 enc Try.prog Try.f5 Rows.outbitsBackRow.domain false) (Rows.outbitsBackSpec.post enc Try.prog Try.f5 false true false false) := by
  refine returnsInHanded_of_change (C := Try.checked) outbitsBack_own started (by kernel_rfl) Try.func5
    (ChangeSpec.witness6 (enc := enc) (C := Try.checked) false ⟨#[], #[.string ⟨#[]⟩], []⟩ 8 (by kernel_rfl) (by kernel_rfl) (by kernel_rfl) (by kernel_rfl)) ?_
  intro W base args ds gs before hval0 hW hcnd _
  have hval : ∀ (j : Nat) t v, Try.f5.params[j]? = some t → args[j]? = some v → Value.okWide Try.prog W .any base t v := hval0
  have hW' := hW
  obtain ⟨p, q, hA0, hV, rfl, hfz, hnd⟩ := hW
  have hA : DataW.TrodAll enc Try.prog W 0 (fun _ => true) true Try.f5.params.toList args.toList ds p := hA0
  rw [Try.params5] at hA hval
  obtain ⟨v0, vs0, d0, ds0, p0, q0, hargs, rfl, rfl, h0, r0⟩ := trodAll_cons hA
  obtain ⟨rfl, rfl, rfl⟩ := trodAll_nil r0
  obtain rfl : args = #[v0] := by cases args; simp_all
  obtain ⟨rfl, rfl⟩ := trodVars_none hV
  obtain ⟨a0, rfl, rfl, rfl, w0⟩ := Go.ChangeMaps.open_string Try.underlying9 (hval 0 9 v0 rfl rfl) h0
  clear hA0 hval0
  refine (outbitsBack_walk a0 w0 W).mono fun e W' ⟨he, hb⟩ => ?_
  subst he
  exact ⟨_, rfl, law_end outbitsBack_laid outbitsBack_reads rfl Try.underlying4 rfl hW' rfl hb⟩

theorem outbitsBack_over : Rows.outbitsBackRow.holds Try.pinned (OpenSpec.ofChange Rows.outbitsBackSpec) :=
  OpenClaim.holds_of_wide 5 Try.f5 rfl rfl rfl rfl rfl rfl rfl ⟨rfl, rfl, rfl, rfl, rfl⟩ rfl rfl rfl rfl rfl (by kernel_rfl) Try.func5 (by kernel_rfl)
    (of_decide_eq_true (by kernel_rfl)) (by unfold Func.isWrapper; first | (rw [if_pos (by decide +kernel)]; kernel_rfl) | (rw [if_neg (by decide +kernel)]; exact ⟨rfl, rfl⟩))
    (fun os started H enc _ => outbitsBack_lifted os started H enc)

theorem outbitsBack_holds : Rows.OutbitsBackSaid :=
  outbitsBack_over
#print axioms outbitsBack_holds
end Go.Proofs.Ytgapoimickgbbaa
