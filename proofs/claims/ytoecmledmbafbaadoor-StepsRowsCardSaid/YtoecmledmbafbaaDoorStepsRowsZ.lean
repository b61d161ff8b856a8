/- The row of any step, and what is taken at any bit of any text, is what the document's own answers say, or what is wrong; and the chapter's examples come out. Conditions: none but the law's own (texts of up to 100 bytes), and the card's: what the listed variable holds when the call begins, tied to the program's text. -/
import Derived.Test.YtoecmledmbafbaaDoorStepsRowsMe
import Derived.Test.YtoecmledmbafbaaDoorStepsRowsMj
import Derived.Test.YtoecmledmbafbaaDoorCards
import Derived.Test.YtoecmledmbafbaaDoorTie
import Derived.ProofKit
import Derived.LaidMore
import Derived.OpenShut
import Derived.Lay
import Derived.SizedLaws
import Derived.SevenTiedAt
import Derived.Stop.Joined
namespace Go.Proofs.YtoecmledmbafbaaDoor
open Go.ChangeShapes Go.WideShapes Go.ChangeAt Go.RowKit
set_option linter.unusedVariables false
set_option maxRecDepth 100000 in
set_option maxHeartbeats 4000000 in
theorem stepsRows_walk (st : Int) (s : ByteArray) (from_ : Int) (w : World) (_ : (Lit.int .i64 st).wf = true) (hss : s.size ≤ maxLen) (hz : s.size ≤ 140737488355328) (wf : (Lit.int .i64 from_).wf = true) (hp : HasSteps w) :
  Calls Tryd.prog 3 #[.int .i64 st, .string s, .int .i64 from_] w fun e w' => e = .returned (.bool true) ∧ Below w.heap.size w w' := by
 unfold maxLen at hss
 have hlt := hp.lt
 have c1 := srow_code st w hp
 have c2 := fun w => srow_page st w
 have NP : ∀ w2, Below w.heap.size w w2 → ∀ x, Below w2.heap.size w2 x → HasSteps x := fun w2 h x hx => (hp.below h).below hx
 have NR : ∀ w2 : World, IsRd (w2.alloc (rdObj s 0)) w2.heap.size s 0 := fun w2 => IsRd.fresh rfl hz
 obtain ⟨b, hb⟩ : ∃ b, (stepRow st).data.toList.isEmpty = b := ⟨_, rfl⟩
 have he : (stepRow st).toList.isEmpty = b := by rw [Lib.toList_data]; exact hb
 rw [hb] at c1
 clear hb
 generalize stepRow st = r at c1 c2 he
 cases b
 case' false => have e2 : r.toList ≠ [] := by intro h; rw [h] at he; cases he
 case' true => have e2 : r.toList = [] := by simpa using he
 all_goals
  go_enter Tryd.func3, Tryd.ntmps3
  go_wp2_with fail
  refine c1.mono ?_
  rintro e w1 ⟨rfl, hb1⟩
  go_wp2_with fail
  refine (c2 _).mono ?_
  rintro e w2 ⟨rfl, hb2⟩
  have hbw : Below w.heap.size w w2 := hb1.trans (hb2.mono hb1.size)
  have hzw : w.heap.size ≤ w2.heap.size := hbw.size
  have HP := Lib.hid (NP _ hbw)
  have hr0 := NR w2
  have hne : 0 ≠ w2.heap.size := by omega
  have hb0 : Below w2.heap.size w2 (w2.alloc (rdObj s 0)) := (Below.refl _ w2).alloc (Nat.le_refl _) _
  have hz0 : w2.heap.size ≤ (w2.alloc (rdObj s 0)).heap.size := by simp
  have END : ∀ x y, Below w2.heap.size w2 x → Below x.heap.size x y → Below w.heap.size w y := fun x y h1 h2 => (hbw.trans (h1.mono hzw)).trans (h2.mono (Nat.le_trans hzw h1.size))
  have EH := Lib.hid END
  clear NP NR hb1 hb2 c1 c2 hp END
  go_wp2_with fail
  refine (rnew_code _ _).mono ?_
  rintro e w3 ⟨rfl, rfl⟩
  generalize hw2 : w2.heap.size = R at hr0 hb0 hz0 HP hne hzw EH ⊢
  generalize w2.alloc (rdObj s 0) = x0 at hr0 hb0 hz0 ⊢
  by_cases h100 : 100 < s.size
  ·have t0 : decide (100 < (s.size : Int)) = true := by simp; omega
   have c5 := lives20 _ (HP.out _ hb0)
   clear h100
   go_wp2_with (with_reducible refine c5.mono ?_; rintro e w' ⟨rfl, hb⟩)
   go_ret
   exact ⟨rfl, EH.out _ _ hb0 hb⟩
  have t0 : decide (100 < (s.size : Int)) = false := by simp; omega
  by_cases hfr : 0 ≤ from_ ∧ from_ ≤ 8 * (s.size : Int)
  ·obtain ⟨f0, f1⟩ := hfr
   go_wp2_with fail
   refine (seek_code _ _ _ _ from_ hr0 f0 f1).mono ?_
   rintro e x1 ⟨rfl, hr1, hg1⟩
   obtain ⟨a, ha⟩ : ∃ a : Nat, from_ = a := ⟨from_.toNat, by omega⟩
   subst ha
   rw [Int.toNat_natCast] at hr1
   obtain ⟨hb1, hz1⟩ := below_ownP hb0 hz0 hg1 (Nat.le_refl R)
   clear hr0 hg1 hb0 hz0
   go_wp2_with fail
   refine (stake_code _ R s a (HP.out _ hb1) hne hr1).mono ?_
   rintro e x2 ⟨rfl, hr2, hg2⟩
   obtain ⟨hb2, hz2⟩ := below_ownP hb1 hz1 hg2 (Nat.le_refl R)
   clear hr1 hg2 hb1 hz1
   go_wp2_with fail
   refine (show_page s (by omega) _).mono ?_
   rintro e x3 ⟨rfl, hb3⟩
   have hb4 : Below R w2 x3 := hb2.trans (hb3.mono hz2)
   have hz4 : R ≤ x3.heap.size := Nat.le_trans hz2 hb3.size
   have hr4 := hr2.below hb3
   clear hb2 hz2 hb3 hr2
   have hsl : (⟨(showL s.data.toList).toArray⟩ : ByteArray).size = 8 * s.size := by rw [size_mk, showL_length]; rfl
   go_wp2_with fail
   refine (srtake_page _ a _ (by rw [hsl]; omega) (by rw [hsl]; omega) (showL_row _)).mono ?_
   rintro e x4 ⟨rfl, hb5⟩
   rw [show (⟨(showL s.data.toList).toArray⟩ : ByteArray).data.toList = showL s.data.toList from rfl]
   have hb6 : Below R w2 x4 := hb4.trans (hb5.mono hz4)
   have hz6 : R ≤ x4.heap.size := Nat.le_trans hz4 hb5.size
   have hr6 := hr4.below hb5
   clear hb4 hz4 hb5 hr4
   obtain ⟨k, f, n, hm⟩ : ∃ k f n, stk ((showL s.data.toList).drop a) = (k, f, n) := ⟨_, _, _, rfl⟩
   rw [hm] at hr6 ⊢
   clear hm
   go_wp2_with fail
   refine (stake_nil _).mono ?_
   rintro e x5 ⟨rfl, rfl⟩
   have g0 : (k == k) = true := beq_self_eq_true k
   have g2 : (f == f) = true := beq_self_eq_true f
   have c5 := lives20 _ (HP.out _ hb6)
   go_wp2_with (first
    | (go_at_call 14; refine (at_code _ _ _ _ hr6).mono ?_; rintro e w' ⟨rfl, rfl⟩)
    | (with_reducible refine c5.mono ?_; rintro e w' ⟨rfl, hb⟩))
   go_ret
   exact ⟨rfl, EH.out _ _ hb6 hb⟩
  ·go_wp2_with fail
   refine (seek_not _ _ _ _ from_ hr0 (by omega)).mono ?_
   rintro e x1 ⟨rfl, rfl⟩
   have c5 := lives20 _ (HP.out _ hb0)
   go_wp2_with (with_reducible refine c5.mono ?_; rintro e w' ⟨rfl, hb⟩)
   go_ret
   exact ⟨rfl, EH.out _ _ hb0 hb⟩
theorem stepsRows_own : ownKnob Tryd.prog.godebug = none := by kernel_rfl
theorem stepsRows_laid : laidOutB Tryd.prog = true := by kernel_rfl
theorem stepsRows_reads : Tryd.f3.params.toList.all (fun t => Tryd.prog.readableRec t && decide (t < Tryd.prog.types.size)) = true := by kernel_rfl
set_option maxRecDepth 100000 in
theorem stepsRows_lifted (os : Os) (started : os.Started) (H : Type) (enc : TypeId × Value → H) :
  ReturnsInHanded {} Tryd.checked os 3 .any (fun w args => (Rows.stepsRowsSpec.pre enc Tryd.prog Tryd.f3 Rows.stepsRowsRow.domain false w args ∧ laidMetH Tryd.prog Rows.stepsRowsRow.laid w) ∧ sizedMet enc Tryd.prog Tryd.f3 (OpenSpec.ofChange Rows.stepsRowsSpec) false w args)
   (Rows.stepsRowsSpec.post enc Tryd.prog Tryd.f3 false true false false) := by
 refine returnsInHanded_of_change_and (C := Tryd.checked) (X := fun w _ => laidMetH Tryd.prog Rows.stepsRowsRow.laid w) (fun _ _ _ hh h => h.of_heap hh) stepsRows_own started (by kernel_rfl) Tryd.func3
  (ChangeSpec.witness_shaped (enc := enc) (C := Tryd.checked) (os := os) (X := fun w _ => laidMetH Tryd.prog Rows.stepsRowsRow.laid w) false (World.laidAll Tryd.prog os Rows.stepsRowsRow.laid) #[.int .i64 0, .string ⟨#[]⟩, .int .i64 0] 8 (World.laidAll_os _ _ _)
   (World.shaped_of_ZipB (by kernel_rfl) (by kernel_rfl)) (by kernel_rfl) (by kernel_rfl) (by kernel_rfl)
   (by rw [MakeChecks.laidMetH_plain _ _ _ (by kernel_rfl)]; exact laidMet_laidAll _ (by kernel_rfl) (by kernel_rfl))) ?_
 intro W base args ds gs before hval0 hW _ hsz0 hL _
 have hval : ∀ (j : Nat) t v, Tryd.f3.params[j]? = some t → args[j]? = some v → Value.okWide Tryd.prog W .any base t v := hval0
 have hW' := hW
 obtain ⟨p, q, hA0, hV, rfl, hfz, hnd⟩ := hW
 have hA : DataW.TrodAll enc Tryd.prog W 0 (fun _ => true) true Tryd.f3.params.toList args.toList ds p := hA0
 rw [Tryd.params3] at hA hval
 obtain ⟨v0, vs0, d0, ds0, p0, q0, hargs, rfl, rfl, h0, r0⟩ := trodAll_cons hA
 obtain ⟨v1, vs1, d1, ds1, p1, q1, rfl, rfl, rfl, h1, r1⟩ := trodAll_cons r0
 obtain ⟨v2, vs2, d2, ds2, p2, q2, rfl, rfl, rfl, h2, r2⟩ := trodAll_cons r1
 obtain ⟨rfl, rfl, rfl⟩ := trodAll_nil r2
 obtain rfl : args = #[v0, v1, v2] := by cases args; simp_all
 obtain ⟨rfl, rfl⟩ := trodVars_none hV
 obtain ⟨a0, rfl, rfl, rfl, w0⟩ := open_int Tryd.underlying3 (hval 0 3 v0 rfl rfl) h0
 obtain ⟨a1, rfl, rfl, rfl, w1⟩ := Go.ChangeMaps.open_string Tryd.underlying9 (hval 1 9 v1 rfl rfl) h1
 have z1 : a1.size ≤ 140737488355328 := Nat.le_trans (sized_string hsz0 (j := 1) rfl rfl) (Nat.le_of_lt reachBytes_lt)
 obtain ⟨a2, rfl, rfl, rfl, w2⟩ := open_int Tryd.underlying3 (hval 2 3 v2 rfl rfl) h2
 clear hA0 hval0
 refine (stepsRows_walk a0 a1 a2 W w0 w1 z1 w2 (steps_laid hL ⟨by simp [Rows.stepsRowsRow], by kernel_rfl⟩)).mono fun e W' ⟨he, hb⟩ => ?_
 subst he
 exact ⟨_, rfl, law_end stepsRows_laid stepsRows_reads rfl Tryd.underlying4 rfl hW' rfl hb⟩
theorem stepsRows_over : Rows.stepsRowsRow.holds Tryd.pinned (OpenSpec.ofChange Rows.stepsRowsSpec) :=
 OpenClaim.holds_of_wide 3 Tryd.f3 rfl rfl rfl rfl rfl rfl rfl ⟨rfl, rfl, rfl, rfl, rfl⟩ rfl rfl rfl rfl rfl (by kernel_rfl) Tryd.func3 (by kernel_rfl)
  (of_decide_eq_true (by kernel_rfl)) (by unfold Func.isWrapper; first | (rw [if_pos (by decide +kernel)]; kernel_rfl) | (rw [if_neg (by decide +kernel)]; exact ⟨rfl, rfl⟩))
  (fun os started H enc _ => stepsRows_lifted os started H enc)
theorem stepsRows_holds : Rows.StepsRowsCardSaid :=
 Claim7.holds_tied_plain_at .later [] [.data] true Rows.stepsRowsCard.stood.harness false stepsRows_over (fun _ h => by cases h) (by kernel_rfl) (fun _ h => by cases h) stepsRows_row_tie rfl ⟨rfl, rfl⟩ (by kernel_rfl) rfl
  (fun f fn hf hfn => by
   obtain rfl : f = 3 := Option.some.inj ((show Tryd.prog.funcNamed "overspill/overspilllaw20.StepsRows" = some 3 by kernel_rfl).symm.trans hf) |>.symm
   obtain rfl : fn = Tryd.f3 := (Option.some.inj (Tryd.func3.symm.trans hfn)).symm
   exact ⟨by kernel_rfl, fun j t ht => by
    rw [Tryd.params3] at ht
    have hm : t ∈ [3, 9, 3] := by simpa using Array.mem_of_getElem? ht
    have hall : ([3, 9, 3].all fun u => !Tryd.prog.wantsStandIn u) = true := by kernel_rfl
    exact (show Tryd.prog.wantsStandIn t = false by simpa using List.all_eq_true.1 hall t hm)⟩)
  (by kernel_rfl)
#print axioms stepsRows_holds
end Go.Proofs.YtoecmledmbafbaaDoor
