/- What package rowhead takes at any bit of any text, or what is wrong, and where the Reader stands then, is what the document's own answer says; and the chapter's example comes out. Conditions: none but the law's own (texts of up to 100 bytes). -/
import Derived.Test.YtpboidkoodjcjaaRowheadTakesMe
import Derived.Test.YtpboidkoodjcjaaRowheadTakesMi
import Derived.Test.YtpboidkoodjcjaaRows
import Derived.ChangeMaps5
import Derived.ProofKit
namespace Go.Proofs.Ytpboidkoodjcjaa
open Go.ChangeShapes Go.WideShapes Go.ChangeAt Go.RowKit
set_option linter.unusedVariables false
set_option maxRecDepth 100000 in
set_option maxHeartbeats 2000000 in
theorem rowheadTakes_walk (s : ByteArray) (from_ n : Int) (hs : s.size ≤ maxLen) (_ : (Lit.int .i64 from_).wf = true) (_ : (Lit.int .i64 n).wf = true) (w : World) :
  Calls Try.prog 4 #[.string s, .int .i64 from_, .int .i64 n] w fun e w' => e = .returned (.bool true) ∧ Below w.heap.size w w' := by
 unfold maxLen at hs
 obtain ⟨R, hR⟩ : ∃ R, w.heap.size = R := ⟨_, rfl⟩
 have hr0 : s.size ≤ 1000 → IsRd (w.alloc (rdObj s 0)) R s 0 := fun h => IsRd.fresh hR (by omega)
 have hb0 : Below R w (w.alloc (rdObj s 0)) := hR ▸ (Below.refl _ w).alloc (Nat.le_refl _) _
 have hz0 : R ≤ (w.alloc (rdObj s 0)).heap.size := by simp; omega
 have HR := Lib.hid hR
 have hsl : (⟨(showL s.data.toList).toArray⟩ : ByteArray).size = 8 * s.size := show_size s
 rw [hR]
 clear hR
 go_enter Try.func4, Try.ntmps4
 go_wp2_with fail
 refine (rnew_code _ _).mono ?_
 rintro e w3 ⟨rfl, rfl⟩
 rw [HR.out]
 generalize w.alloc (rdObj s 0) = x0 at hr0 hb0 hz0 ⊢
 by_cases h100 : 100 < s.size
 ·have t0 : decide (100 < (s.size : Int)) = true := by simp; omega
  clear h100
  go_wp2_with (go_at_call 6; refine (lives23 _).mono ?_; rintro e w' ⟨rfl, hb⟩)
  go_ret
  exact ⟨rfl, hb0.trans (hb.mono hz0)⟩
 have t0 : decide (100 < (s.size : Int)) = false := by simp; omega
 have hs5 : s.size ≤ 1099511627776 := by omega
 replace hr0 := hr0 (by omega)
 by_cases hfr : 0 ≤ from_ ∧ from_ ≤ 8 * (s.size : Int)
 ·obtain ⟨f0, f1⟩ := hfr
  go_wp2_with fail
  refine (seek_code _ _ _ _ from_ hr0 f0 f1).mono ?_
  rintro e x1 ⟨rfl, hr1, hg1⟩
  obtain ⟨a, ha⟩ : ∃ a : Nat, from_ = a := ⟨from_.toNat, by omega⟩
  subst ha
  rw [Int.toNat_natCast] at hr1
  have hb1 : Below R w x1 := hb0.grown hg1 hz0 (by intro k hk; injection hk with hk; omega)
  have hz1 : R ≤ x1.heap.size := Nat.le_trans hz0 hg1.size
  clear hr0 hg1 hb0 hz0
  go_wp2_with fail
  refine (htake_code _ R s a n hr1 hs5).mono ?_
  rintro e x2 ⟨rfl, hr2, hg2⟩
  have hb2 : Below R w x2 := hb1.grown hg2 hz1 (by intro k hk; injection hk with hk; omega)
  have hz2 : R ≤ x2.heap.size := Nat.le_trans hz1 hg2.size
  clear hr1 hg2 hb1 hz1
  go_wp2_with fail
  refine (show_page s (by omega) _).mono ?_
  rintro e x3 ⟨rfl, hb3⟩
  have hb4 : Below R w x3 := hb2.trans (hb3.mono hz2)
  have hz4 : R ≤ x3.heap.size := Nat.le_trans hz2 hb3.size
  have hr4 := hr2.below hb3
  clear hb2 hz2 hb3 hr2
  go_wp2_with fail
  refine (htake_page s a n (by omega) hs5 _).mono ?_
  rintro e x4 ⟨rfl, rfl⟩
  obtain ⟨i, q, z, f, hm⟩ : ∃ i q z f, hdk s.data.toList a n = (i, q, z, f) := ⟨_, _, _, _, rfl⟩
  rw [hm] at hr4 ⊢
  clear hm
  go_wp2_with fail
  refine (htake_nil _ _).mono ?_
  rintro e x5 ⟨rfl, rfl⟩
  have g0 : (i == i) = true := beq_self_eq_true i
  have g1 : (q == q) = true := beq_self_eq_true q
  have g2 : (f == f) = true := beq_self_eq_true f
  have g3 : ((z : Int) == z) = true := beq_self_eq_true _
  go_wp2_with (first
   | (go_at_call 17; refine (at_code _ _ _ _ hr4).mono ?_; rintro e w' ⟨rfl, rfl⟩)
   | (go_at_call 6; refine (lives23 _).mono ?_; rintro e w' ⟨rfl, hb⟩))
  go_ret
  exact ⟨rfl, hb4.trans (hb.mono hz4)⟩
 ·go_wp2_with fail
  refine (seek_not _ _ _ _ from_ hr0 (by omega)).mono ?_
  rintro e x1 ⟨rfl, rfl⟩
  go_wp2_with (go_at_call 6; refine (lives23 _).mono ?_; rintro e w' ⟨rfl, hb⟩)
  go_ret
  exact ⟨rfl, hb0.trans (hb.mono hz0)⟩
theorem rowheadTakes_own : ownKnob Try.prog.godebug = none := by kernel_rfl
theorem rowheadTakes_laid : laidOutB Try.prog = true := by kernel_rfl
theorem rowheadTakes_reads : Try.f4.params.toList.all (fun t => Try.prog.readableRec t && decide (t < Try.prog.types.size)) = true := by kernel_rfl
set_option maxRecDepth 100000 in
theorem rowheadTakes_lifted (os : Os) (started : os.Started) (H : Type) (enc : TypeId × Value → H) :
  ReturnsInHanded {} Try.checked os 4 .any (Rows.rowheadTakesSpec.pre6 enc Try.prog Try.f4 Rows.rowheadTakesRow.domain false) (Rows.rowheadTakesSpec.post enc Try.prog Try.f4 false true false false) := by
 refine returnsInHanded_of_change (C := Try.checked) rowheadTakes_own started (by kernel_rfl) Try.func4
  (ChangeSpec.witness6 (enc := enc) (C := Try.checked) false ⟨#[], #[.string ⟨#[]⟩, .int .i64 0, .int .i64 0], []⟩ 8 (by kernel_rfl) (by kernel_rfl) (by kernel_rfl) (by kernel_rfl)) ?_
 intro W base args ds gs before hval0 hW hcnd _
 have hval : ∀ (j : Nat) t v, Try.f4.params[j]? = some t → args[j]? = some v → Value.okWide Try.prog W .any base t v := hval0
 have hW' := hW
 obtain ⟨p, q, hA0, hV, rfl, hfz, hnd⟩ := hW
 have hA : DataW.TrodAll enc Try.prog W 0 (fun _ => true) true Try.f4.params.toList args.toList ds p := hA0
 rw [Try.params4] at hA hval
 obtain ⟨v0, vs0, d0, ds0, p0, q0, hargs, rfl, rfl, h0, r0⟩ := trodAll_cons hA
 obtain ⟨v1, vs1, d1, ds1, p1, q1, rfl, rfl, rfl, h1, r1⟩ := trodAll_cons r0
 obtain ⟨v2, vs2, d2, ds2, p2, q2, rfl, rfl, rfl, h2, r2⟩ := trodAll_cons r1
 obtain ⟨rfl, rfl, rfl⟩ := trodAll_nil r2
 obtain rfl : args = #[v0, v1, v2] := by cases args; simp_all
 obtain ⟨rfl, rfl⟩ := trodVars_none hV
 obtain ⟨a0, rfl, rfl, rfl, w0⟩ := Go.ChangeMaps.open_string Try.underlying9 (hval 0 9 v0 rfl rfl) h0
 obtain ⟨a1, rfl, rfl, rfl, w1⟩ := open_int Try.underlying3 (hval 1 3 v1 rfl rfl) h1
 obtain ⟨a2, rfl, rfl, rfl, w2⟩ := open_int Try.underlying3 (hval 2 3 v2 rfl rfl) h2
 clear hA0 hval0
 refine (rowheadTakes_walk a0 a1 a2 w0 w1 w2 W).mono fun e W' ⟨he, hb⟩ => ?_
 subst he
 exact ⟨_, rfl, law_end rowheadTakes_laid rowheadTakes_reads rfl Try.underlying4 rfl hW' rfl hb⟩
theorem rowheadTakes_over : Rows.rowheadTakesRow.holds Try.pinned (OpenSpec.ofChange Rows.rowheadTakesSpec) :=
 OpenClaim.holds_of_wide 4 Try.f4 rfl rfl rfl rfl rfl rfl rfl ⟨rfl, rfl, rfl, rfl, rfl⟩ rfl rfl rfl rfl rfl (by kernel_rfl) Try.func4 (by kernel_rfl)
  (of_decide_eq_true (by kernel_rfl)) (by unfold Func.isWrapper; first | (rw [if_pos (by decide +kernel)]; kernel_rfl) | (rw [if_neg (by decide +kernel)]; exact ⟨rfl, rfl⟩))
  (fun os started H enc _ => rowheadTakes_lifted os started H enc)
theorem rowheadTakes_holds : Rows.RowheadTakesSaid :=
 rowheadTakes_over
#print axioms rowheadTakes_holds
end Go.Proofs.Ytpboidkoodjcjaa
