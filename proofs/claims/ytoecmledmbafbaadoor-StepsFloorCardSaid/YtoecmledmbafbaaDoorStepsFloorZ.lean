/- Where there is a step, Next goes it; a quantiser and its Next, both brought up to any floor, have a step between; and the chapter's examples come out. Conditions: none but the card's: what the listed variable holds when the call begins, tied to the program's text. -/
import Derived.Test.YtoecmledmbafbaaDoorStepsFloorMe
import Derived.Test.YtoecmledmbafbaaDoorStepsFloorMj
import Derived.Test.YtoecmledmbafbaaDoorCards
import Derived.Test.YtoecmledmbafbaaDoorTie
import Derived.ProofKit
import Derived.LaidMore
import Derived.OpenShut
import Derived.Lay
import Derived.SizedLaws
import Derived.SevenTiedAt
import Derived.Stop.Joined
namespace Go.Proofs.YtoecmledmbafbaaDoor
open Go.ChangeShapes Go.WideShapes Go.ChangeAt Go.RowKit
set_option linter.unusedVariables false
theorem floor_plain {a s f : Int} (ha : 1 ≤ a ∧ a ≤ 31) (hf : 1 ≤ f ∧ f ≤ 31) : ∃ n : Int, betQ (max a f) (max (nextQ a s) f) = (n, true) ∧ nextQ (max a f) n = max (nextQ a s) f ∧ -2 ≤ n ∧ n ≤ 2 ∧ (n = 0 ↔ max a f = max (nextQ a s) f) := by
 have h1 := nextQ_in a s
 have h2 : -2 ≤ nextQ a s - a ∧ nextQ a s - a ≤ 2 := by unfold nextQ clip; omega
 generalize nextQ a s = b at *
 refine ⟨max b f - max a f, betQ_is (by omega), by unfold nextQ clip; omega, by omega, by omega, by omega⟩
theorem floor_xy {a b f X Y : Int} (h : ∃ n : Int, betQ (max a f) (max b f) = (n, true) ∧ nextQ (max a f) n = max b f ∧ -2 ≤ n ∧ n ≤ 2 ∧ (n = 0 ↔ max a f = max b f)) (hx : max a f = X) (hy : max b f = Y) :
  ∃ n : Int, betQ X Y = (n, true) ∧ nextQ X n = Y ∧ -2 ≤ n ∧ n ≤ 2 ∧ ((n = 0 ∧ X = Y) ∨ (¬ n = 0 ∧ ¬ X = Y)) := by
 rw [hx, hy] at h
 obtain ⟨n, h1, h2, h3, h4, h5⟩ := h
 refine ⟨n, h1, h2, h3, h4, ?_⟩
 by_cases e : n = 0
 ·exact .inl ⟨e, h5.1 e⟩
 ·exact .inr ⟨e, fun q => e (h5.2 q)⟩
set_option maxHeartbeats 2000000 in
theorem stepsFloor_walk (q s f : Int) (w : World) (wq : (Lit.int .u8 q).wf = true) (_ : (Lit.int .i64 s).wf = true) (wf : (Lit.int .u8 f).wf = true) (hp : HasSteps w) :
  Calls Tryd.prog 5 #[.int .u8 q, .int .i64 s, .int .u8 f] w fun e w' => e = .returned (.bool true) ∧ Below w.heap.size w w' := by
 have c5 := lives20 w hp
 obtain ⟨q1, q2⟩ : 0 ≤ q ∧ q ≤ 255 := by simpa [Lit.wf, IntKind.min, IntKind.max, IntKind.signed, IntKind.bits] using wq
 obtain ⟨f1, f2⟩ : 0 ≤ f ∧ f ≤ 255 := by simpa [Lit.wf, IntKind.min, IntKind.max, IntKind.signed, IntKind.bits] using wf
 obtain ⟨m, hm⟩ : ∃ m, q.tmod 31 = m := ⟨_, rfl⟩
 obtain ⟨k, hk⟩ : ∃ k, f.tmod 31 = k := ⟨_, rfl⟩
 obtain ⟨m1, m2⟩ : 0 ≤ m ∧ m ≤ 30 := by rw [← hm, Int.tmod_eq_emod_of_nonneg q1]; omega
 obtain ⟨k1, k2⟩ : 0 ≤ k ∧ k ≤ 30 := by rw [← hk, Int.tmod_eq_emod_of_nonneg f1]; omega
 have c1 := fun w => next_code (1 + m) s w
 have c2 := fun x y w => bet_code x y w
 have c3 := fun x y w => next_code x y w
 have F := Lib.hid (floor_plain (a := 1 + m) (s := s) (f := 1 + k) (by omega) (by omega))
 obtain ⟨r1, r2⟩ := nextQ_in (1 + m) s
 generalize nextQ (1 + m) s = b at c1 F r1 r2
 clear hp wq wf
 go_enter Tryd.func5, Tryd.ntmps5
 go_wp2_with fail
 refine (c1 _).mono ?_
 rintro e w1 ⟨rfl, rfl⟩
 go_wp2_with fail
 all_goals
  first
   | ((have hx : max (1 + m) (1 + k) = 1 + k := (by omega)); (have hy : max b (1 + k) = 1 + k := (by omega)); obtain ⟨n, e1, e2, n1, n2, n3⟩ := floor_xy F.out hx hy; clear hx hy)
   | ((have hx : max (1 + m) (1 + k) = 1 + k := (by omega)); (have hy : max b (1 + k) = b := (by omega)); obtain ⟨n, e1, e2, n1, n2, n3⟩ := floor_xy F.out hx hy; clear hx hy)
   | ((have hx : max (1 + m) (1 + k) = 1 + m := (by omega)); (have hy : max b (1 + k) = 1 + k := (by omega)); obtain ⟨n, e1, e2, n1, n2, n3⟩ := floor_xy F.out hx hy; clear hx hy)
   | ((have hx : max (1 + m) (1 + k) = 1 + m := (by omega)); (have hy : max b (1 + k) = b := (by omega)); obtain ⟨n, e1, e2, n1, n2, n3⟩ := floor_xy F.out hx hy; clear hx hy)
  have E2 := Lib.hid e2
  clear e2 F
  refine (c2 _ _ _).mono ?_
  rintro e w1 ⟨rfl, rfl⟩
  rw [e1]
  clear e1
  rcases n3 with ⟨n3, n4⟩ | ⟨n3, n4⟩
  case' inl =>
   rw [← beq_iff_eq] at n3 n4
  case' inr => first | (exact absurd rfl n4) | (rw [← ne_eq, ← beq_eq_false_iff_ne] at n3 n4)
  all_goals
   go_wp2_with fail
   refine (c3 _ _ _).mono ?_
   rintro e w1 ⟨rfl, rfl⟩
   rw [E2.out]
   go_wp2_with (with_reducible refine c5.mono ?_; rintro e w' ⟨rfl, hb⟩)
   go_ret
   exact ⟨rfl, hb⟩
theorem stepsFloor_own : ownKnob Tryd.prog.godebug = none := by kernel_rfl
theorem stepsFloor_laid : laidOutB Tryd.prog = true := by kernel_rfl
theorem stepsFloor_reads : Tryd.f5.params.toList.all (fun t => Tryd.prog.readableRec t && decide (t < Tryd.prog.types.size)) = true := by kernel_rfl
set_option maxRecDepth 100000 in
theorem stepsFloor_lifted (os : Os) (started : os.Started) (H : Type) (enc : TypeId × Value → H) :
  ReturnsInHanded {} Tryd.checked os 5 .any (fun w args => (Rows.stepsFloorSpec.pre enc Tryd.prog Tryd.f5 Rows.stepsFloorRow.domain false w args ∧ laidMetH Tryd.prog Rows.stepsFloorRow.laid w) ∧ sizedMet enc Tryd.prog Tryd.f5 (OpenSpec.ofChange Rows.stepsFloorSpec) false w args)
   (Rows.stepsFloorSpec.post enc Tryd.prog Tryd.f5 false true false false) := by
 refine returnsInHanded_of_change_and (C := Tryd.checked) (X := fun w _ => laidMetH Tryd.prog Rows.stepsFloorRow.laid w) (fun _ _ _ hh h => h.of_heap hh) stepsFloor_own started (by kernel_rfl) Tryd.func5
  (ChangeSpec.witness_shaped (enc := enc) (C := Tryd.checked) (os := os) (X := fun w _ => laidMetH Tryd.prog Rows.stepsFloorRow.laid w) false (World.laidAll Tryd.prog os Rows.stepsFloorRow.laid) #[.int .u8 0, .int .i64 0, .int .u8 0] 8 (World.laidAll_os _ _ _)
   (World.shaped_of_ZipB (by kernel_rfl) (by kernel_rfl)) (by kernel_rfl) (by kernel_rfl) (by kernel_rfl)
   (by rw [MakeChecks.laidMetH_plain _ _ _ (by kernel_rfl)]; exact laidMet_laidAll _ (by kernel_rfl) (by kernel_rfl))) ?_
 intro W base args ds gs before hval0 hW _ hsz0 hL _
 have hval : ∀ (j : Nat) t v, Tryd.f5.params[j]? = some t → args[j]? = some v → Value.okWide Tryd.prog W .any base t v := hval0
 have hW' := hW
 obtain ⟨p, q, hA0, hV, rfl, hfz, hnd⟩ := hW
 have hA : DataW.TrodAll enc Tryd.prog W 0 (fun _ => true) true Tryd.f5.params.toList args.toList ds p := hA0
 rw [Tryd.params5] at hA hval
 obtain ⟨v0, vs0, d0, ds0, p0, q0, hargs, rfl, rfl, h0, r0⟩ := trodAll_cons hA
 obtain ⟨v1, vs1, d1, ds1, p1, q1, rfl, rfl, rfl, h1, r1⟩ := trodAll_cons r0
 obtain ⟨v2, vs2, d2, ds2, p2, q2, rfl, rfl, rfl, h2, r2⟩ := trodAll_cons r1
 obtain ⟨rfl, rfl, rfl⟩ := trodAll_nil r2
 obtain rfl : args = #[v0, v1, v2] := by cases args; simp_all
 obtain ⟨rfl, rfl⟩ := trodVars_none hV
 obtain ⟨a0, rfl, rfl, rfl, w0⟩ := open_int Tryd.underlying5 (hval 0 5 v0 rfl rfl) h0
 obtain ⟨a1, rfl, rfl, rfl, w1⟩ := open_int Tryd.underlying3 (hval 1 3 v1 rfl rfl) h1
 obtain ⟨a2, rfl, rfl, rfl, w2⟩ := open_int Tryd.underlying5 (hval 2 5 v2 rfl rfl) h2
 clear hA0 hval0
 refine (stepsFloor_walk a0 a1 a2 W w0 w1 w2 (steps_laid hL ⟨by simp [Rows.stepsFloorRow], by kernel_rfl⟩)).mono fun e W' ⟨he, hb⟩ => ?_
 subst he
 exact ⟨_, rfl, law_end stepsFloor_laid stepsFloor_reads rfl Tryd.underlying4 rfl hW' rfl hb⟩
theorem stepsFloor_over : Rows.stepsFloorRow.holds Tryd.pinned (OpenSpec.ofChange Rows.stepsFloorSpec) :=
 OpenClaim.holds_of_wide 5 Tryd.f5 rfl rfl rfl rfl rfl rfl rfl ⟨rfl, rfl, rfl, rfl, rfl⟩ rfl rfl rfl rfl rfl (by kernel_rfl) Tryd.func5 (by kernel_rfl)
  (of_decide_eq_true (by kernel_rfl)) (by unfold Func.isWrapper; first | (rw [if_pos (by decide +kernel)]; kernel_rfl) | (rw [if_neg (by decide +kernel)]; exact ⟨rfl, rfl⟩))
  (fun os started H enc _ => stepsFloor_lifted os started H enc)
theorem stepsFloor_holds : Rows.StepsFloorCardSaid :=
 Claim7.holds_tied_plain_at .later [] [.data] true Rows.stepsFloorCard.stood.harness false stepsFloor_over (fun _ h => by cases h) (by kernel_rfl) (fun _ h => by cases h) stepsFloor_row_tie rfl ⟨rfl, rfl⟩ (by kernel_rfl) rfl
  (fun f fn hf hfn => by
   obtain rfl : f = 5 := Option.some.inj ((show Tryd.prog.funcNamed "overspill/overspilllaw20.StepsFloor" = some 5 by kernel_rfl).symm.trans hf) |>.symm
   obtain rfl : fn = Tryd.f5 := (Option.some.inj (Tryd.func5.symm.trans hfn)).symm
   exact ⟨by kernel_rfl, fun j t ht => by
    rw [Tryd.params5] at ht
    have hm : t ∈ [5, 3, 5] := by simpa using Array.mem_of_getElem? ht
    have hall : ([5, 3, 5].all fun u => !Tryd.prog.wantsStandIn u) = true := by kernel_rfl
    exact (show Tryd.prog.wantsStandIn t = false by simpa using List.all_eq_true.1 hall t hm)⟩)
  (by kernel_rfl)
#print axioms stepsFloor_holds
end Go.Proofs.YtoecmledmbafbaaDoor
