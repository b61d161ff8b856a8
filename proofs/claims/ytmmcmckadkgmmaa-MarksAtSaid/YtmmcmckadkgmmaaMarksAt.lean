/- Of any text and any bit package marks tells the mark that begins there, the one that comes, and how many noughts stand there, as the document's own answers do; and the chapter's example comes out. Conditions: none but the law's own (texts of up to 500 bytes). -/
import Derived.Test.YtmmcmckadkgmmaaRows
import Derived.Test.YtmmcmckadkgmmaaRef4
import Derived.ChangeMaps5
namespace Go.Proofs.Ytmmcmckadkgmmaa
open Go.ChangeShapes Go.WideShapes Go.ChangeAt Go.RowKit
set_option linter.unusedVariables false

set_option maxHeartbeats 2000000 in
theorem marksAt_walk (s : ByteArray) (bit : Int) (hs : s.size ≤ maxLen) (hb : (Lit.int .i64 bit).wf = true) (w : World) :
    Calls Try.prog 3 #[.string s, .int .i64 bit] w fun e w' => e = .returned (.bool true) ∧ Below w.heap.size w w' := by
  unfold maxLen at hs
  have hm := (i64_most hb).2
  by_cases hl : 500 < s.size
  · clear hb
    go_enter Try.func3, Try.ntmps3
    go_wp2_with (go_at_call 6; refine (lives4 _).mono ?_; rintro e w' ⟨rfl, hb⟩)
    go_ret
    exact ⟨rfl, hb⟩
  · have d0 : decide (500 < (s.size : Int)) = false := by simp; omega
    have hs5 : s.size ≤ 1099511627776 := by omega
    have hs1 : s.size ≤ 1048576 := by omega
    have HM := Lib.hid hm
    have NZ := Lib.hid (fun h => next_zero (l := s.data.toList) (bit := bit) h)
    clear hb hl hm
    go_enter Try.func3, Try.ntmps3
    go_wp2_with fail
    refine (show_page s hs1 _).mono ?_
    rintro e w1 ⟨rfl, hb1⟩
    have hz1 := hb1.size
    go_wp2_with fail
    refine (mat_code _ s bit hs5).mono ?_
    rintro e w2 ⟨rfl, hb2⟩
    have hz2 := hb2.size
    go_wp2_with fail
    refine (mat_page s bit hs5 _).mono ?_
    rintro e w3 ⟨rfl, rfl⟩
    go_wp2_with fail
    refine (mnext_code _ s bit hs5).mono ?_
    rintro e w4 ⟨rfl, hb4⟩
    have hz4 := hb4.size
    go_wp2_with fail
    refine (mnext_page s bit hs5 _).mono ?_
    rintro e w5 ⟨rfl, rfl⟩
    obtain ⟨k, hk⟩ : ∃ k, (nextOf s.data.toList bit).1 = k := ⟨_, rfl⟩
    obtain ⟨ok, hok⟩ : ∃ ok, (nextOf s.data.toList bit).2 = ok := ⟨_, rfl⟩
    obtain ⟨m, hm⟩ : ∃ m, (markAt s.data.toList bit).1 = m := ⟨_, rfl⟩
    obtain ⟨f, hf⟩ : ∃ f, (markAt s.data.toList bit).2 = f := ⟨_, rfl⟩
    have hkz : ok = false → k = 0 := fun h => hk ▸ NZ.out (hok.trans h)
    have KZ := Lib.hid hkz
    rw [hk, hok, hm, hf]
    clear hk hok hm hf hkz NZ
    have hbw : Below w.heap.size w w4 := hb1.trans ((hb2.mono (by omega)).trans (hb4.mono (by omega)))
    have hzw : w.heap.size ≤ w4.heap.size := by omega
    have ZS := Lib.hid (fun x => zeros_page s bit hs5 HM.out x)
    clear hb1 hb2 hb4 hz1 hz2 hz4 HM
    cases ok with
    | true =>
      clear KZ
      go_wp2_with fail
      refine (zeros_code _ s bit hs5).mono ?_
      rintro e w6 ⟨rfl, hb6⟩
      have hz6 := hb6.size
      go_wp2_with fail
      refine (ZS.out _).mono ?_
      rintro e w7 ⟨rfl, rfl⟩
      go_wp2_with fail
      refine (lives4 _).mono ?_
      rintro e w8 ⟨rfl, hb8⟩
      go_wp2
      go_ret
      exact ⟨rfl, hbw.trans ((hb6.mono (by omega)).trans (hb8.mono (by omega)))⟩
    | false =>
      obtain rfl := KZ.out rfl
      clear KZ
      go_wp2_with fail
      refine (zeros_code _ s bit hs5).mono ?_
      rintro e w6 ⟨rfl, hb6⟩
      have hz6 := hb6.size
      go_wp2_with fail
      refine (ZS.out _).mono ?_
      rintro e w7 ⟨rfl, rfl⟩
      go_wp2_with fail
      refine (lives4 _).mono ?_
      rintro e w8 ⟨rfl, hb8⟩
      go_wp2
      go_ret
      exact ⟨rfl, hbw.trans ((hb6.mono (by omega)).trans (hb8.mono (by omega)))⟩

theorem marksAt_own : ownKnob Try.prog.godebug = none := by kernel_rfl
theorem marksAt_laid : laidOutB Try.prog = true := by kernel_rfl
theorem marksAt_reads : Try.f3.params.toList.all (fun t => Try.prog.readableRec t && decide (t < Try.prog.types.size)) = true := by kernel_rfl

set_option maxRecDepth 100000 in
theorem marksAt_lifted (os : Os) (started : os.Started) (H : Type) (enc : TypeId × Value → H) :
    ReturnsInHanded {} Try.checked os 3 .any (Rows.marksAtSpec.pre6 enc Try.prog Try.f3 Rows.marksAtRow.domain false) (Rows.marksAtSpec.post enc Try.prog Try.f3 false true false false) := by
  refine returnsInHanded_of_change (C := Try.checked) marksAt_own started (by kernel_rfl) Try.func3
    (ChangeSpec.witness6 (enc := enc) (C := Try.checked) false ⟨#[], #[.string ⟨#[]⟩, .int .i64 0], []⟩ 8 (by kernel_rfl) (by kernel_rfl) (by kernel_rfl) (by kernel_rfl)) ?_
  intro W base args ds gs before hval0 hW hcnd _
  have hval : ∀ (j : Nat) t v, Try.f3.params[j]? = some t → args[j]? = some v → Value.okWide Try.prog W .any base t v := hval0
  have hW' := hW
  obtain ⟨p, q, hA0, hV, rfl, hfz, hnd⟩ := hW
  have hA : DataW.TrodAll enc Try.prog W 0 (fun _ => true) true Try.f3.params.toList args.toList ds p := hA0
  rw [Try.params3] at hA hval
  obtain ⟨v0, vs0, d0, ds0, p0, q0, hargs, rfl, rfl, h0, r0⟩ := trodAll_cons hA
  obtain ⟨v1, vs1, d1, ds1, p1, q1, rfl, rfl, rfl, h1, r1⟩ := trodAll_cons r0
  obtain ⟨rfl, rfl, rfl⟩ := trodAll_nil r1
  obtain rfl : args = #[v0, v1] := by cases args; simp_all
  obtain ⟨rfl, rfl⟩ := trodVars_none hV
  obtain ⟨a0, rfl, rfl, rfl, w0⟩ := Go.ChangeMaps.open_string Try.underlying9 (hval 0 9 v0 rfl rfl) h0
  obtain ⟨a1, rfl, rfl, rfl, w1⟩ := open_int Try.underlying3 (hval 1 3 v1 rfl rfl) h1
  clear hA0 hval0
  refine (marksAt_walk a0 a1 w0 w1 W).mono fun e W' ⟨he, hb⟩ => ?_
  subst he
  exact ⟨_, rfl, law_end marksAt_laid marksAt_reads rfl Try.underlying4 rfl hW' rfl hb⟩

theorem marksAt_over : Rows.marksAtRow.holds Try.pinned (OpenSpec.ofChange Rows.marksAtSpec) :=
  OpenClaim.holds_of_wide 3 Try.f3 rfl rfl rfl rfl rfl rfl rfl ⟨rfl, rfl, rfl, rfl, rfl⟩ rfl rfl rfl rfl rfl (by kernel_rfl) Try.func3 (by kernel_rfl)
    (of_decide_eq_true (by kernel_rfl)) (by unfold Func.isWrapper; first | (rw [if_pos (by decide +kernel)]; kernel_rfl) | (rw [if_neg (by decide +kernel)]; exact ⟨rfl, rfl⟩))
    (fun os started H enc _ => marksAt_lifted os started H enc)

theorem marksAt_holds : Rows.MarksAtSaid :=
  marksAt_over
#print axioms marksAt_holds
end Go.Proofs.Ytmmcmckadkgmmaa
