/- Of any number, any two parts and any all, package whole's Share returns what the document's own answer returns: not below 0, not above a number that is not negative, 0 of a negative one, no less of the greater part; and the chapter's examples come out. Conditions: none; every input. -/
import Derived.Test.YtlfebbcgpdnndaaRows
import Derived.Test.YtlfebbcgpdnndaaRound
import Derived.Test.YtlfebbcgpdnndaaLaws
import Derived.RegionTactic
import Derived.ChangeAlike
namespace Go.Proofs.Ytlfebbcgpdnndaa
open Go.ChangeShapes Go.WideShapes Go.ChangeAt Go.RowKit
set_option linter.unusedVariables false

theorem share_within (n part all : Int) : 0 ≤ share n part all ∧ (0 ≤ n → share n part all ≤ n) ∧ (n < 0 → share n part all = 0) := by
  have h1 := share_lo n part all
  have h2 := share_hi n part all
  have h3 : 0 ≤ n → clip n 0 2147483647 ≤ n := fun h => by unfold clip; omega
  have h4 : n < 0 → clip n 0 2147483647 = 0 := fun h => by unfold clip; omega
  exact ⟨h1, fun h => by have := h3 h; omega, fun h => by have := h4 h; omega⟩

set_option maxHeartbeats 1000000 in
theorem wholeShares_walk (n part all more : Int) (w0 : (Lit.int .i64 n).wf = true) (w1 : (Lit.int .i64 part).wf = true) (w2 : (Lit.int .i64 all).wf = true) (w3 : (Lit.int .i64 more).wf = true) (w : World) :
    Calls Try.prog 5 #[.int .i64 n, .int .i64 part, .agg #[.int .i64 all, .int .i64 more]] w fun e w' => e = .returned (.bool true) ∧ Below w.heap.size w w' := by
  obtain ⟨s1, s2, s3⟩ := share_within n part all
  have hm := share_mono n part more all
  clear w0 w1 w2 w3
  by_cases h0 : 0 ≤ n
  · have s4 := s2 h0
    clear s2 s3
    by_cases hp : part ≤ more
    · have hm2 := hm hp
      clear hm
      go_enter Try.func5, Try.ntmps5
      go_wp2
      go_region
      all_goals
        go_wp2_with (first
          | (go_at_call 14; refine (share_code _ _ _ _).mono ?_; rintro e w' ⟨rfl, rfl⟩)
          | (go_at_call 15; refine (share_page _ _ _ _).mono ?_; rintro e w' ⟨rfl, rfl⟩)
          | (go_at_call 11; refine (lives_yes _).mono ?_; rintro e w' ⟨rfl, rfl⟩))
        go_ret
        exact ⟨rfl, ((Below.refl _ _).alloc (Nat.le_refl _) _).drew⟩
    · have hp2 : more < part := by omega
      clear hm hp
      go_enter Try.func5, Try.ntmps5
      go_wp2
      go_region
      all_goals
        go_wp2_with (first
          | (go_at_call 14; refine (share_code _ _ _ _).mono ?_; rintro e w' ⟨rfl, rfl⟩)
          | (go_at_call 15; refine (share_page _ _ _ _).mono ?_; rintro e w' ⟨rfl, rfl⟩)
          | (go_at_call 11; refine (lives_yes _).mono ?_; rintro e w' ⟨rfl, rfl⟩))
        go_ret
        exact ⟨rfl, ((Below.refl _ _).alloc (Nat.le_refl _) _).drew⟩
  · have s4 := s3 (by omega)
    have h1 : n < 0 := by omega
    have s5 := share_lo n more all
    clear s2 s3 h0 s1 hm
    by_cases hp : part ≤ more
    · skip
      go_enter Try.func5, Try.ntmps5
      go_wp2
      go_region
      all_goals
        go_wp2_with (first
          | (go_at_call 14; refine (share_code _ _ _ _).mono ?_; rintro e w' ⟨rfl, rfl⟩)
          | (go_at_call 15; refine (share_page _ _ _ _).mono ?_; rintro e w' ⟨rfl, rfl⟩)
          | (go_at_call 11; refine (lives_yes _).mono ?_; rintro e w' ⟨rfl, rfl⟩))
        go_ret
        exact ⟨rfl, ((Below.refl _ _).alloc (Nat.le_refl _) _).drew⟩
    · have hp2 : more < part := by omega
      clear hp
      go_enter Try.func5, Try.ntmps5
      go_wp2
      go_region
      all_goals
        go_wp2_with (first
          | (go_at_call 14; refine (share_code _ _ _ _).mono ?_; rintro e w' ⟨rfl, rfl⟩)
          | (go_at_call 15; refine (share_page _ _ _ _).mono ?_; rintro e w' ⟨rfl, rfl⟩)
          | (go_at_call 11; refine (lives_yes _).mono ?_; rintro e w' ⟨rfl, rfl⟩))
        go_ret
        exact ⟨rfl, ((Below.refl _ _).alloc (Nat.le_refl _) _).drew⟩

theorem wholeShares_own : ownKnob Try.prog.godebug = none := by kernel_rfl
theorem wholeShares_laid : laidOutB Try.prog = true := by kernel_rfl
theorem wholeShares_reads : Try.f5.params.toList.all (fun t => Try.prog.readableRec t && decide (t < Try.prog.types.size)) = true := by kernel_rfl

set_option maxRecDepth 100000 in
theorem wholeShares_lifted (os : Os) (started : os.Started) (H : Type) (enc : TypeId × Value → H) :
    ReturnsInHanded {} Try.checked os 5 .any (Rows.wholeSharesSpec.pre6 enc Try.prog Try.f5 Rows.wholeSharesRow.domain false) (Rows.wholeSharesSpec.post enc Try.prog Try.f5 false true false false) := by
  refine returnsInHanded_of_change (C := Try.checked) wholeShares_own started (by kernel_rfl) Try.func5
    (ChangeSpec.witness6 (enc := enc) (C := Try.checked) false ⟨#[], #[.int .i64 0, .int .i64 0, .agg #[.int .i64 0, .int .i64 0]], []⟩ 8 (by kernel_rfl) (by kernel_rfl) (by kernel_rfl) (by kernel_rfl)) ?_
  intro W base args ds gs before hval0 hW hcnd _
  have hval : ∀ (j : Nat) t v, Try.f5.params[j]? = some t → args[j]? = some v → Value.okWide Try.prog W .any base t v := hval0
  have hW' := hW
  obtain ⟨p, q, hA0, hV, rfl, hfz, hnd⟩ := hW
  have hA : DataW.TrodAll enc Try.prog W 0 (fun _ => true) true Try.f5.params.toList args.toList ds p := hA0
  rw [Try.params5] at hA hval
  obtain ⟨v0, vs0, d0, ds0, p0, q0, hargs, rfl, rfl, h0, r0⟩ := trodAll_cons hA
  obtain ⟨v1, vs1, d1, ds1, p1, q1, rfl, rfl, rfl, h1, r1⟩ := trodAll_cons r0
  obtain ⟨v2, vs2, d2, ds2, p2, q2, rfl, rfl, rfl, h2, r2⟩ := trodAll_cons r1
  obtain ⟨rfl, rfl, rfl⟩ := trodAll_nil r2
  obtain rfl : args = #[v0, v1, v2] := by cases args; simp_all
  obtain ⟨rfl, rfl⟩ := trodVars_none hV
  obtain ⟨a0, rfl, rfl, rfl, w0⟩ := open_int Try.underlying3 (hval 0 3 v0 rfl rfl) h0
  obtain ⟨a1, rfl, rfl, rfl, w1⟩ := open_int Try.underlying3 (hval 1 3 v1 rfl rfl) h1
  obtain ⟨a2, b2, rfl, w2, x2⟩ := open_two Try.underlying27 Try.underlying3 (by kernel_rfl) (by kernel_rfl) (hval 2 27 v2 rfl rfl) h2
  clear hA0 hval0
  refine (wholeShares_walk a0 a1 a2 b2 w0 w1 w2 x2 W).mono fun e W' ⟨he, hb⟩ => ?_
  subst he
  exact ⟨_, rfl, law_end wholeShares_laid wholeShares_reads rfl Try.underlying4 rfl hW' rfl hb⟩

theorem wholeShares_over : Rows.wholeSharesRow.holds Try.pinned (OpenSpec.ofChange Rows.wholeSharesSpec) :=
  OpenClaim.holds_of_wide 5 Try.f5 rfl rfl rfl rfl rfl rfl rfl ⟨rfl, rfl, rfl, rfl, rfl⟩ rfl rfl rfl rfl rfl (by kernel_rfl) Try.func5 (by kernel_rfl)
    (of_decide_eq_true (by kernel_rfl)) (by unfold Func.isWrapper; first | (rw [if_pos (by decide +kernel)]; kernel_rfl) | (rw [if_neg (by decide +kernel)]; exact ⟨rfl, rfl⟩))
    (fun os started H enc _ => wholeShares_lifted os started H enc)

theorem wholeShares_holds : Rows.WholeSharesSaid :=
  wholeShares_over
#print axioms wholeShares_holds
end Go.Proofs.Ytlfebbcgpdnndaa
