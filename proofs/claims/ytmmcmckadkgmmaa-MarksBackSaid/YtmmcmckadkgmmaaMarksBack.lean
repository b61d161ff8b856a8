/- A mark that package marks put behind any bits comes there, with as many bits as it should; a wrong number puts nothing; and the chapter's example comes out. Conditions: none but the law's own (texts of up to 200 digits). -/
import Derived.Test.YtmmcmckadkgmmaaRows
import Derived.Test.YtmmcmckadkgmmaaRef4
import Derived.ChangeMaps5
namespace Go.Proofs.Ytmmcmckadkgmmaa
open Go.ChangeShapes Go.WideShapes Go.ChangeAt Go.RowKit
set_option linter.unusedVariables false

theorem markRow_length (n : Nat) : (markRow n).length = 22 := rowOf_length _ _
theorem markRow_row (n : Nat) : isRow (markRow n) = true := rowOf_row _ _
theorem markRow_num (n : Nat) (h : n < 32) : num (markRow n) = 32 + n := by
  unfold markRow
  rw [num_rowOf, Nat.mod_eq_of_lt (by omega)]
/-- The bits behind a mark that was put. -/
def behind (r : List UInt8) (n : Nat) : List UInt8 := r ++ List.replicate (gap r.length) 48 ++ markRow n
theorem behind_length (r : List UInt8) (n : Nat) : (behind r n).length = r.length + gap r.length + 22 := by
  unfold behind
  rw [List.length_append, List.length_append, List.length_replicate, markRow_length]
theorem next_put (r : List UInt8) (n : Nat) (hr : isRow r = true) (h : n < 32) : nextOf (packL (behind r n)) (r.length : Int) = ((n : Int), true) := by
  have hl := behind_length r n
  have hrow : isRow (behind r n) = true := by
    unfold behind
    rw [isRow_append, isRow_append, hr, isRow_noughts, markRow_row]; rfl
  have hmost := packL_most (behind r n)
  have h1 : tell (packL (behind r n)) r.length (gap r.length) = 0 := by
    rw [tell_pack _ hrow _ _ (by omega)]
    unfold behind
    rw [List.append_assoc, List.drop_left' rfl, List.take_left' (by rw [List.length_replicate]), num_zeros]
  have h2 : tell (packL (behind r n)) (r.length + gap r.length) 22 = 32 + n := by
    rw [tell_pack _ hrow _ _ (by omega)]
    unfold behind
    rw [List.drop_left' (by rw [List.length_append, List.length_replicate]), List.take_of_length_le (by rw [markRow_length]; exact Nat.le_refl _), markRow_num n h]
  have h3 : markAt (packL (behind r n)) ((r.length + gap r.length : Nat) : Int) = ((n : Int), 0) := by
    rw [mark_in (by omega), h2, if_pos (by omega), show (32 + n) % 32 = n by omega]
  rw [next_in (by omega) h1, h3]
  rfl

set_option maxHeartbeats 1000000 in
theorem add_any (w : World) (B b : Nat) (s : ByteArray) (hw : IsWr w B b []) (hs : s.size ≤ 1099511627776) (hB : B ≤ w.heap.size) :
    Calls Try.prog 17 #[.pointer (some ⟨b, 0, none⟩), .string s] w fun e w' => ∃ (c : Int) (r : List UInt8), e = .returned (.int .i64 c) ∧ r.length ≤ s.size ∧ isRow r = true ∧ IsWr w' B b r ∧ w.grownBy w' (some b) := by
  cases hr : isRow s.data.toList with
  | false =>
    refine (add_none w b s hr).mono ?_
    rintro e w1 ⟨rfl, hb⟩
    exact ⟨1, [], rfl, Nat.zero_le _, rfl, hw.below hb, ⟨hb.os, hb.tape, hb.output, hb.size, fun k hk _ => hb.block k hk⟩⟩
  | true =>
    refine (add_code w B b [] s hw hr (by rw [List.length_nil]; omega) hB).mono ?_
    rintro e w1 ⟨rfl, hw1, hg⟩
    exact ⟨0, s.data.toList, rfl, Nat.le_refl _, hr, hw1, hg⟩

set_option maxHeartbeats 2000000 in
theorem marksBack_walk (s : ByteArray) (n : Int) (hs : s.size ≤ maxLen) (hb : (Lit.int .i64 n).wf = true) (w : World) :
    Calls Try.prog 5 #[.string s, .int .i64 n] w fun e w' => e = .returned (.bool true) ∧ Below w.heap.size w w' := by
  unfold maxLen at hs
  by_cases hl : 200 < s.size
  · clear hb
    go_enter Try.func5, Try.ntmps5
    go_wp2_with (go_at_call 6; refine (lives4 _).mono ?_; rintro e w' ⟨rfl, hb⟩)
    go_ret
    exact ⟨rfl, hb⟩
  · have d0 : decide (200 < (s.size : Int)) = false := by simp; omega
    have hs2 : s.size ≤ 200 := by omega
    obtain ⟨b, hbz⟩ : ∃ b, w.heap.size = b := ⟨_, rfl⟩
    have hw0 : IsWr (w.alloc newWr) (b + 1) b [] := IsWr.fresh hbz (by omega)
    have hb0 : Below w.heap.size w (w.alloc newWr) := (Below.refl _ w).alloc (Nat.le_refl _) _
    have hz0 : (w.alloc newWr).heap.size = b + 1 := by simp; exact hbz
    rw [hbz] at hb0
    have HB := Lib.hid hbz
    rw [hbz]
    clear hb hl hbz
    go_enter Try.func5, Try.ntmps5
    go_wp2_with fail
    refine (new_code _).mono ?_
    rintro e w1 ⟨rfl, rfl⟩
    rw [HB.out]
    go_wp2_with fail
    refine (add_any _ (b + 1) b s hw0 (by omega) (by omega)).mono ?_
    rintro e w2 ⟨c, r, rfl, hrl, hrow, hw2, hg2⟩
    have hb2 : Below b w w2 := hb0.grown hg2 (by omega) (by intro k hk; injection hk with hk; omega)
    have hz2 : b + 1 ≤ w2.heap.size := by have := hg2.size; omega
    have RW := Lib.hid hrow
    clear hw0 hb0 hz0 hg2 hrow
    go_wp2_with fail
    refine (len_code _ _ _ _ hw2).mono ?_
    rintro e w3 ⟨rfl, rfl⟩
    by_cases hn : n < 0 ∨ 31 < n
    · go_wp2_with fail
      refine (mput_not _ _ n hn).mono ?_
      rintro e w4 ⟨rfl, rfl⟩
      have FIN : Hid (∀ w5, Below w2.heap.size w2 w5 → Below b w w5) := Lib.hid fun w5 h => hb2.trans (h.mono (by omega))
      rcases hn with h | h
      · have d1 : decide (n < 0) = true := by simpa using h
        clear h
        go_wp2_with fail
        refine (len_code _ _ _ _ hw2).mono ?_
        rintro e w4 ⟨rfl, rfl⟩
        go_wp2_with fail
        refine (lives4 _).mono ?_
        rintro e w8 ⟨rfl, hb8⟩
        go_wp2
        go_ret
        exact ⟨rfl, FIN.out _ hb8⟩
      · have d1 : decide (n < 0) = false := by simp; omega
        have d2 : decide (31 < n) = true := by simpa using h
        clear h
        go_wp2_with fail
        refine (len_code _ _ _ _ hw2).mono ?_
        rintro e w4 ⟨rfl, rfl⟩
        go_wp2_with fail
        refine (lives4 _).mono ?_
        rintro e w8 ⟨rfl, hb8⟩
        go_wp2
        go_ret
        exact ⟨rfl, FIN.out _ hb8⟩
    · obtain ⟨m, rfl⟩ := Int.eq_ofNat_of_zero_le (by omega : 0 ≤ n)
      have hm : m < 32 := by omega
      have d1 : decide ((m : Int) < 0) = false := by simp
      have d2 : decide (31 < (m : Int)) = false := by simp; omega
      have NP := Lib.hid (next_put r m RW.out hm)
      have BL := Lib.hid (behind_length r m)
      have HM := Lib.hid hm
      clear hn hm
      go_wp2_with fail
      refine (mput_code _ (b + 1) b r m HM.out hw2 (by omega) hz2).mono ?_
      rintro e w4 ⟨rfl, hw4, hg4⟩
      have hw4 : IsWr w4 (b + 1) b (behind r m) := hw4
      have hb4 : Below b w w4 := hb2.grown hg4 (by omega) (by intro k hk; injection hk with hk; omega)
      have hz4 : b + 1 ≤ w4.heap.size := by have := hg4.size; omega
      have hlen : (behind r m).length = r.length + gap r.length + 22 := BL.out
      have hgl := gap_lt r.length
      have hg8 : (r.length + gap r.length) % 8 = 0 := by unfold gap; omega
      generalize behind r m = R at NP hw4 hlen
      generalize gap r.length = g at hlen hgl hg8
      clear hw2 hb2 hz2 hg4 BL
      have hR : R.length ≤ 300 := by omega
      go_wp2_with fail
      refine (text_code _ _ _ _ hw4 (by omega)).mono ?_
      rintro e w5 ⟨rfl, hb5⟩
      have hw5 := hw4.below hb5
      have hz5 := hb5.size
      have hbw5 : Below b w w5 := hb4.trans (hb5.mono (by omega))
      clear hw4 hb4 hb5
      have hpl : (packL R).length ≤ 1099511627776 := by rw [packL_length]; omega
      go_wp2_with fail
      refine (mnext_code _ ⟨(packL R).toArray⟩ _ (by rw [size_mk]; exact hpl)).mono ?_
      rintro e w6 ⟨rfl, hb6⟩
      rw [show (⟨(packL R).toArray⟩ : ByteArray).data.toList = packL R from rfl, NP.out]
      have hw6 := hw5.below hb6
      have hz6 := hb6.size
      have hbw6 : Below b w w6 := hbw5.trans (hb6.mono (by omega))
      have hzb : b + 1 ≤ w6.heap.size := by omega
      clear hw5 hb6 hbw5 hz5 hz6 hz4 hpl NP
      have l1 : decide ((r.length : Int) + 22 ≤ (R.length : Int)) = true := by simp; omega
      have l2 : decide ((R.length : Int) < (r.length : Int) + 30) = true := by simp; omega
      have l3 : ((R.length : Int) % 8 == 6) = true := by rw [beq_iff_eq]; omega
      clear hlen hgl hg8
      go_wp2_with fail
      refine (len_code _ _ _ _ hw6).mono ?_
      rintro e w7 ⟨rfl, rfl⟩
      go_wp2_with fail
      refine (len_code _ _ _ _ hw6).mono ?_
      rintro e w7 ⟨rfl, rfl⟩
      go_wp2_with fail
      refine (len_code _ _ _ _ hw6).mono ?_
      rintro e w7 ⟨rfl, rfl⟩
      go_wp2_with fail
      refine (mput_nil _ _).mono ?_
      rintro e w7 ⟨rfl, rfl⟩
      go_wp2_with fail
      refine (lives4 _).mono ?_
      rintro e w8 ⟨rfl, hb8⟩
      go_wp2
      go_ret
      exact ⟨rfl, hbw6.trans (hb8.mono (by omega))⟩

theorem marksBack_own : ownKnob Try.prog.godebug = none := by kernel_rfl
theorem marksBack_laid : laidOutB Try.prog = true := by kernel_rfl
theorem marksBack_reads : Try.f5.params.toList.all (fun t => Try.prog.readableRec t && decide (t < Try.prog.types.size)) = true := by kernel_rfl

set_option maxRecDepth 100000 in
theorem marksBack_lifted (os : Os) (started : os.Started) (H : Type) (enc : TypeId × Value → H) :
    ReturnsInHanded {} Try.checked os 5 .any (Rows.marksBackSpec.pre6 enc Try.prog Try.f5 Rows.marksBackRow.domain false) (Rows.marksBackSpec.post enc Try.prog Try.f5 false true false false) := by
  refine returnsInHanded_of_change (C := Try.checked) marksBack_own started (by kernel_rfl) Try.func5
    (ChangeSpec.witness6 (enc := enc) (C := Try.checked) false ⟨#[], #[.string ⟨#[]⟩, .int .i64 0], []⟩ 8 (by kernel_rfl) (by kernel_rfl) (by kernel_rfl) (by kernel_rfl)) ?_
  intro W base args ds gs before hval0 hW hcnd _
  have hval : ∀ (j : Nat) t v, Try.f5.params[j]? = some t → args[j]? = some v → Value.okWide Try.prog W .any base t v := hval0
  have hW' := hW
  obtain ⟨p, q, hA0, hV, rfl, hfz, hnd⟩ := hW
  have hA : DataW.TrodAll enc Try.prog W 0 (fun _ => true) true Try.f5.params.toList args.toList ds p := hA0
  rw [Try.params5] at hA hval
  obtain ⟨v0, vs0, d0, ds0, p0, q0, hargs, rfl, rfl, h0, r0⟩ := trodAll_cons hA
  obtain ⟨v1, vs1, d1, ds1, p1, q1, rfl, rfl, rfl, h1, r1⟩ := trodAll_cons r0
  obtain ⟨rfl, rfl, rfl⟩ := trodAll_nil r1
  obtain rfl : args = #[v0, v1] := by cases args; simp_all
  obtain ⟨rfl, rfl⟩ := trodVars_none hV
  obtain ⟨a0, rfl, rfl, rfl, w0⟩ := Go.ChangeMaps.open_string Try.underlying9 (hval 0 9 v0 rfl rfl) h0
  obtain ⟨a1, rfl, rfl, rfl, w1⟩ := open_int Try.underlying3 (hval 1 3 v1 rfl rfl) h1
  clear hA0 hval0
  refine (marksBack_walk a0 a1 w0 w1 W).mono fun e W' ⟨he, hb⟩ => ?_
  subst he
  exact ⟨_, rfl, law_end marksBack_laid marksBack_reads rfl Try.underlying4 rfl hW' rfl hb⟩

theorem marksBack_over : Rows.marksBackRow.holds Try.pinned (OpenSpec.ofChange Rows.marksBackSpec) :=
  OpenClaim.holds_of_wide 5 Try.f5 rfl rfl rfl rfl rfl rfl rfl ⟨rfl, rfl, rfl, rfl, rfl⟩ rfl rfl rfl rfl rfl (by kernel_rfl) Try.func5 (by kernel_rfl)
    (of_decide_eq_true (by kernel_rfl)) (by unfold Func.isWrapper; first | (rw [if_pos (by decide +kernel)]; kernel_rfl) | (rw [if_neg (by decide +kernel)]; exact ⟨rfl, rfl⟩))
    (fun os started H enc _ => marksBack_lifted os started H enc)

theorem marksBack_holds : Rows.MarksBackSaid :=
  marksBack_over
#print axioms marksBack_holds
end Go.Proofs.Ytmmcmckadkgmmaa
