/- The vector that is foretold behind any others is what the document says. Conditions: none but the law's own (up to 500 vectors). -/
import Derived.Test.YtknmhemajmiboaaRows
import Derived.Test.YtknmhemajmiboaaMlive
import Derived.Test.YtknmhemajmiboaaLaws
import Derived.ProofKit
namespace Go.Proofs.Ytknmhemajmiboaa
open Go.ChangeShapes Go.WideShapes Go.ChangeAt Go.RowKit

set_option maxHeartbeats 4000000 in
theorem medianOf_walk (p : Option Addr) (n cap : Nat) (across first : Int) (w : World) (ha : RowsAt w TwoInts 2 p n) (hn : n ≤ maxLen) (wa : (Lit.int .i64 across).wf = true) (_ : (Lit.int .i64 first).wf = true) :
    Calls Try.prog 3 #[.slice p n cap, .int .i64 across, .int .i64 first] w fun e w' => e = .returned (.bool true) ∧ Below w.heap.size w w' := by
  have hA := (i64_most wa).2
  obtain ⟨f, hv, _⟩ := vecs_of_rows ha
  have hn' := hn
  unfold maxLen at hn'
  by_cases hl : 500 < n
  · have t0 : decide ((500 : Int) < (n : Int)) = true := decide_eq_true (by omega)
    go_enter Try.func3, Try.ntmps3
    go_wp2_with (with_reducible refine (lives19 _).mono ?_; rintro e w1 ⟨rfl, hb⟩)
    go_ret
    exact ⟨rfl, hb⟩
  · have t0 : decide ((500 : Int) < (n : Int)) = false := decide_eq_false (by omega)
    have C1 := Lib.hid (medof_code f p n cap across first w hv hn hA)
    have C2 := Lib.hid (fun x (hx : Below w.heap.size w x) => medof_page f p n cap across first x (hv.mono hx) hn hA)
    have E := two_equal_self (medV f n across first)
    generalize medV f n across first = M at *
    clear hv ha hn wa hA hl
    go_enter Try.func3, Try.ntmps3
    go_wp2_with fail
    refine C1.out.mono ?_
    rintro e w1 ⟨rfl, hb1⟩
    unfold twoA
    go_wp2_with fail
    refine (C2.out w1 hb1).mono ?_
    rintro e w2 ⟨rfl, hb2⟩
    unfold twoA
    go_wp2_with (with_reducible refine (lives19 _).mono ?_; rintro e w3 ⟨rfl, hb3⟩)
    go_ret
    exact ⟨rfl, (hb1.trans (hb2.mono hb1.size)).trans (hb3.mono (by have := hb1.size; have := hb2.size; omega))⟩
theorem medianOf_own : ownKnob Try.prog.godebug = none := by kernel_rfl
theorem medianOf_laid : laidOutB Try.prog = true := by kernel_rfl
theorem medianOf_reads : Try.f3.params.toList.all (fun t => Try.prog.readableRec t && decide (t < Try.prog.types.size)) = true := by kernel_rfl

set_option maxRecDepth 100000 in
theorem medianOf_lifted (os : Os) (started : os.Started) (H : Type) (enc : TypeId × Value → H) :
    ReturnsInHanded {} Try.checked os 3 .any (Rows.medianOfSpec.pre6 enc Try.prog Try.f3 Rows.medianOfRow.domain false) (Rows.medianOfSpec.post enc Try.prog Try.f3 false true false false) := by
  refine returnsInHanded_of_change (C := Try.checked) medianOf_own started (by kernel_rfl) Try.func3
    (ChangeSpec.witness6 (enc := enc) (C := Try.checked) false ⟨#[], #[.slice none 0 0, .int .i64 0, .int .i64 0], []⟩ 8 (by kernel_rfl) (by kernel_rfl) (by kernel_rfl) (by kernel_rfl)) ?_
  intro W base args ds gs before hval0 hW hcnd _
  have hval : ∀ (j : Nat) t v, Try.f3.params[j]? = some t → args[j]? = some v → Value.okWide Try.prog W .any base t v := hval0
  have hW' := hW
  obtain ⟨p, q, hA0, hV, rfl, hfz, hnd⟩ := hW
  have hA : DataW.TrodAll enc Try.prog W 0 (fun _ => true) true Try.f3.params.toList args.toList ds p := hA0
  rw [Try.params3] at hA hval
  obtain ⟨v0, vs0, d0, ds0, p0, q0, hargs, rfl, rfl, h0, r0⟩ := trodAll_cons hA
  obtain ⟨v1, vs1, d1, ds1, p1, q1, rfl, rfl, rfl, h1, r1⟩ := trodAll_cons r0
  obtain ⟨v2, vs2, d2, ds2, p2, q2, rfl, rfl, rfl, h2, r2⟩ := trodAll_cons r1
  obtain ⟨rfl, rfl, rfl⟩ := trodAll_nil r2
  obtain rfl : args = #[v0, v1, v2] := by cases args; simp_all
  obtain ⟨rfl, rfl⟩ := trodVars_none hV
  obtain ⟨p0, l0, c0, rfl, w0, x0⟩ := open_rows 2 _ Try.underlying22 (by kernel_rfl) (by decide) (two_array Try.underlying24 Try.underlying3 (by kernel_rfl)) (hval 0 22 v0 rfl rfl) h0
  obtain ⟨a1, rfl, rfl, rfl, w1⟩ := open_int Try.underlying3 (hval 1 3 v1 rfl rfl) h1
  obtain ⟨a2, rfl, rfl, rfl, w2⟩ := open_int Try.underlying3 (hval 2 3 v2 rfl rfl) h2
  clear hA0 hval0
  refine (medianOf_walk p0 l0 c0 a1 a2 W x0 w0 w1 w2).mono fun e W' ⟨he, hb⟩ => ?_
  subst he
  exact ⟨_, rfl, law_end medianOf_laid medianOf_reads rfl Try.underlying4 rfl hW' rfl hb⟩

theorem medianOf_over : Rows.medianOfRow.holds Try.pinned (OpenSpec.ofChange Rows.medianOfSpec) :=
  OpenClaim.holds_of_wide 3 Try.f3 rfl rfl rfl rfl rfl rfl rfl ⟨rfl, rfl, rfl, rfl, rfl⟩ rfl rfl rfl rfl rfl (by kernel_rfl) Try.func3 (by kernel_rfl)
    (of_decide_eq_true (by kernel_rfl)) (by unfold Func.isWrapper; first | (rw [if_pos (by decide +kernel)]; kernel_rfl) | (rw [if_neg (by decide +kernel)]; exact ⟨rfl, rfl⟩))
    (fun os started H enc _ => medianOf_lifted os started H enc)

theorem medianOf_holds : Rows.MedianOfSaid :=
  medianOf_over
#print axioms medianOf_holds
end Go.Proofs.Ytknmhemajmiboaa
