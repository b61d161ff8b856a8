/- A value has its level's sign, a greater level has no lesser value, and values lie from -2048 to 2047; and the chapter's examples come out. No condition. -/
import Derived.Test.YtifdbmkmicaneaaRows
import Derived.Test.YtifdbmkmicaneaaVal
import Derived.Test.YtifdbmkmicaneaaLaws
import Derived.ProofKit
namespace Go.Proofs.Ytifdbmkmicaneaa
open Go.ChangeShapes Go.WideShapes Go.ChangeAt Go.RowKit

set_option maxRecDepth 100000 in
set_option maxHeartbeats 2000000 in
theorem scaleRises_walk (a b q : Int) (_ : (Lit.int .i64 a).wf = true) (_ : (Lit.int .i64 b).wf = true) (_ : (Lit.int .i64 q).wf = true) (w : World) : Calls Try.prog 5 #[.int .i64 a, .int .i64 b, .int .i64 q] w fun e w' => e = .returned (.bool true) ∧ Below w.heap.size w w' := by
  have h1 := fun w => val_code a q w
  have h2 := fun w => val_code b q w
  have h5 := lives12
  have s := val_sign a q
  have m := fun h => val_mono (a := a) (b := b) q h
  have r := val_within a q
  generalize valV a q = x at *
  generalize valV b q = y at *
  have e1 : decide (0 < x) = decide (0 < a) := by rw [decide_eq_decide]; exact s.1
  have e2 : decide (x < 0) = decide (a < 0) := by rw [decide_eq_decide]; exact s.2
  clear s
  obtain ⟨r1, r2⟩ := r
  obtain ⟨p, hp⟩ : ∃ p, decide (0 < a) = p := ⟨_, rfl⟩
  obtain ⟨n, hn⟩ : ∃ n, decide (a < 0) = n := ⟨_, rfl⟩
  rw [hp] at e1
  rw [hn] at e2
  have pp : (p == p) = true := beq_self_eq_true p
  have nn : (n == n) = true := beq_self_eq_true n
  by_cases h : a ≤ b
  · have mm := m h
    clear m
    go_enter Try.func5, Try.ntmps5
    go_wp2_with (first
      | (with_reducible refine (h1 _).mono ?_; rintro e w1 ⟨rfl, rfl⟩)
      | (with_reducible refine (h2 _).mono ?_; rintro e w1 ⟨rfl, rfl⟩)
      | (with_reducible refine (h5 _).mono ?_; rintro e w1 ⟨rfl, rfl⟩))
    go_ret
    exact ⟨rfl, Below.refl _ _⟩
  · clear m
    go_enter Try.func5, Try.ntmps5
    go_wp2_with (first
      | (with_reducible refine (h1 _).mono ?_; rintro e w1 ⟨rfl, rfl⟩)
      | (with_reducible refine (h2 _).mono ?_; rintro e w1 ⟨rfl, rfl⟩)
      | (with_reducible refine (h5 _).mono ?_; rintro e w1 ⟨rfl, rfl⟩))
    go_ret
    exact ⟨rfl, Below.refl _ _⟩

theorem scaleRises_own : ownKnob Try.prog.godebug = none := by kernel_rfl
theorem scaleRises_laid : laidOutB Try.prog = true := by kernel_rfl
theorem scaleRises_reads : Try.f5.params.toList.all (fun t => Try.prog.readableRec t && decide (t < Try.prog.types.size)) = true := by kernel_rfl

set_option maxRecDepth 100000 in
theorem scaleRises_lifted (os : Os) (started : os.Started) (H : Type) (enc : TypeId × Value → H) :
    ReturnsInHanded {} Try.checked os 5 .any (Rows.scaleRisesSpec.pre6 enc Try.prog Try.f5 Rows.scaleRisesRow.domain false) (Rows.scaleRisesSpec.post enc Try.prog Try.f5 false true false false) := by
  refine returnsInHanded_of_change (C := Try.checked) scaleRises_own started (by kernel_rfl) Try.func5
    (ChangeSpec.witness6 (enc := enc) (C := Try.checked) false ⟨#[], #[.int .i64 0, .int .i64 0, .int .i64 0], []⟩ 8 (by kernel_rfl) (by kernel_rfl) (by kernel_rfl) (by kernel_rfl)) ?_
  intro W base args ds gs before hval0 hW hcnd _
  have hval : ∀ (j : Nat) t v, Try.f5.params[j]? = some t → args[j]? = some v → Value.okWide Try.prog W .any base t v := hval0
  have hW' := hW
  obtain ⟨p, q, hA0, hV, rfl, hfz, hnd⟩ := hW
  have hA : DataW.TrodAll enc Try.prog W 0 (fun _ => true) true Try.f5.params.toList args.toList ds p := hA0
  rw [Try.params5] at hA hval
  obtain ⟨v0, vs0, d0, ds0, p0, q0, hargs, rfl, rfl, h0, r0⟩ := trodAll_cons hA
  obtain ⟨v1, vs1, d1, ds1, p1, q1, rfl, rfl, rfl, h1, r1⟩ := trodAll_cons r0
  obtain ⟨v2, vs2, d2, ds2, p2, q2, rfl, rfl, rfl, h2, r2⟩ := trodAll_cons r1
  obtain ⟨rfl, rfl, rfl⟩ := trodAll_nil r2
  obtain rfl : args = #[v0, v1, v2] := by cases args; simp_all
  obtain ⟨rfl, rfl⟩ := trodVars_none hV
  obtain ⟨a0, rfl, rfl, rfl, w0⟩ := open_int Try.underlying3 (hval 0 3 v0 rfl rfl) h0
  obtain ⟨a1, rfl, rfl, rfl, w1⟩ := open_int Try.underlying3 (hval 1 3 v1 rfl rfl) h1
  obtain ⟨a2, rfl, rfl, rfl, w2⟩ := open_int Try.underlying3 (hval 2 3 v2 rfl rfl) h2
  clear hA0 hval0
  refine (scaleRises_walk a0 a1 a2 w0 w1 w2 W).mono fun e W' ⟨he, hb⟩ => ?_
  subst he
  exact ⟨_, rfl, law_end scaleRises_laid scaleRises_reads rfl Try.underlying4 rfl hW' rfl hb⟩

theorem scaleRises_over : Rows.scaleRisesRow.holds Try.pinned (OpenSpec.ofChange Rows.scaleRisesSpec) :=
  OpenClaim.holds_of_wide 5 Try.f5 rfl rfl rfl rfl rfl rfl rfl ⟨rfl, rfl, rfl, rfl, rfl⟩ rfl rfl rfl rfl rfl (by kernel_rfl) Try.func5 (by kernel_rfl)
    (of_decide_eq_true (by kernel_rfl)) (by unfold Func.isWrapper; first | (rw [if_pos (by decide +kernel)]; kernel_rfl) | (rw [if_neg (by decide +kernel)]; exact ⟨rfl, rfl⟩))
    (fun os started H enc _ => scaleRises_lifted os started H enc)

theorem scaleRises_holds : Rows.ScaleRisesSaid :=
  scaleRises_over
#print axioms scaleRises_holds
end Go.Proofs.Ytifdbmkmicaneaa
