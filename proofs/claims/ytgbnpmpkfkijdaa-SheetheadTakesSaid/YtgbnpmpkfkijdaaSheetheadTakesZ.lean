/- What package sheethead takes at any bit of any text, or what is wrong, and where the Reader stands then, is what the document's own answer says; and the chapter's example comes out. Conditions: none but the law's own (texts of up to 200 bytes). -/
import Derived.Test.YtgbnpmpkfkijdaaSheetheadTakesMe
import Derived.Test.YtgbnpmpkfkijdaaSheetheadTakesMr
import Derived.Test.YtgbnpmpkfkijdaaSheetheadTakesMt
import Derived.Test.YtgbnpmpkfkijdaaRows
import Derived.ChangeMaps5
import Derived.ProofKit
namespace Go.Proofs.Ytgbnpmpkfkijdaa
open Go.ChangeShapes Go.WideShapes Go.ChangeAt Go.RowKit
set_option linter.unusedVariables false
theorem zero_fresh : (sheetL shdZ (.slice none 0 0) (.slice none 0 0) 0).toArray.all (·.oneCell') = true := by kernel_rfl
set_option maxRecDepth 100000 in
set_option maxHeartbeats 4000000 in
theorem sheetheadTakes_walk (s : ByteArray) (from_ : Int) (hs : s.size ≤ maxLen) (_ : (Lit.int .i64 from_).wf = true) (w : World) :
  Calls Try.prog 4 #[.string s, .int .i64 from_] w fun e w' => e = .returned (.bool true) ∧ Below w.heap.size w w' := by
 unfold maxLen at hs
 obtain ⟨R, hR⟩ : ∃ R, w.heap.size = R := ⟨_, rfl⟩
 have hr0 : s.size ≤ 1000 → IsRd (w.alloc (rdObj s 0)) R s 0 := fun h => IsRd.fresh hR (by omega)
 have hb0 : Below R w (w.alloc (rdObj s 0)) := hR ▸ (Below.refl _ w).alloc (Nat.le_refl _) _
 have hz0 : R < (w.alloc (rdObj s 0)).heap.size := by simp; omega
 have HR := Lib.hid hR
 rw [hR]
 clear hR
 go_enter Try.func4, Try.ntmps4
 go_wp2_with fail
 refine (rnew_code _ _).mono ?_
 rintro e w3 ⟨rfl, rfl⟩
 rw [HR.out]
 generalize w.alloc (rdObj s 0) = x0 at hr0 hb0 hz0 ⊢
 by_cases h100 : 200 < s.size
 ·have t0 : decide (200 < (s.size : Int)) = true := by simp; omega
  clear h100
  go_wp2_with (go_at_call 6; refine (lives24 _).mono ?_; rintro e w' ⟨rfl, hb⟩)
  go_ret
  exact ⟨rfl, hb0.trans (hb.mono (by omega))⟩
 have t0 : decide (200 < (s.size : Int)) = false := by simp; omega
 have hs5 : s.size ≤ 1099511627776 := by omega
 replace hr0 := hr0 (by omega)
 by_cases hfr : 0 ≤ from_ ∧ from_ ≤ 8 * (s.size : Int)
 ·obtain ⟨f0, f1⟩ := hfr
  go_wp2_with fail
  refine (seek_code _ _ _ _ from_ hr0 f0 f1).mono ?_
  rintro e x1 ⟨rfl, hr1, hg1⟩
  obtain ⟨a, ha⟩ : ∃ a : Nat, from_ = a := ⟨from_.toNat, by omega⟩
  subst ha
  rw [Int.toNat_natCast] at hr1
  have hb1 : Below R w x1 := hb0.grown hg1 (by omega) (by intro k hk; injection hk with hk; omega)
  have hz1 : R < x1.heap.size := Nat.lt_of_lt_of_le hz0 hg1.size
  clear hr0 hg1 hb0 hz0
  have ct := stk_code x1 R s a hr1 hs5
  have cg := fun y => sktake_page s a (by omega) (by omega) y
  unfold ShTake at ct
  unfold SPage at cg
  obtain ⟨h, z, f, hm⟩ : ∃ h z f, shk s.data.toList a = (h, z, f) := ⟨_, _, _, rfl⟩
  have hl8 : h.supp.length ≤ 8 := by
   have := shk_few s.data.toList a
   rwa [hm] at this
  rw [hm] at ct cg
  dsimp only at ct cg
  clear hm
  go_wp2_with fail
  refine ct.mono ?_
  rintro e x2 ⟨a1, cap1, rfl, hil1, hfr1, hr2, hg2⟩
  have hb2 : Below R w x2 := hb1.grown hg2 (by omega) (by intro k hk; injection hk with hk; omega)
  have hz2 : R < x2.heap.size := Nat.lt_of_lt_of_le hz1 hg2.size
  clear hr1 hg2 hb1 hz1 ct hfr1
  have hsh1 := ShAt.fresh (cap := cap1) (z := 0) hil1
  have HSZ1 := sheet_sized h (.slice a1 h.supp.length cap1) (.slice none 0 0) 0
  have HONE1 := sheet_one h a1 none h.supp.length 0 cap1 0 0
  have HYZ1 := zero_sized h a1 cap1 0
  have hr3 : IsRd (x2.alloc (.cells (sheetL h (.slice a1 h.supp.length cap1) (.slice none 0 0) 0).toArray 25 (0, 0))) R s z := hr2.below ((Below.refl _ x2).alloc (Nat.le_refl _) _)
  have hb3 : Below R w (x2.alloc (.cells (sheetL h (.slice a1 h.supp.length cap1) (.slice none 0 0) 0).toArray 25 (0, 0))) := hb2.alloc (by omega) _
  have hz3 : R < (x2.alloc (.cells (sheetL h (.slice a1 h.supp.length cap1) (.slice none 0 0) 0).toArray 25 (0, 0))).heap.size := by simp; omega
  obtain ⟨Z1, hZ1⟩ : ∃ Z, (sheetL h (.slice a1 h.supp.length cap1) (.slice none 0 0) 0).toArray = Z := ⟨_, rfl⟩
  rw [hZ1] at HSZ1 HONE1 HYZ1 hsh1 hr3 hb3 hz3 ⊢
  obtain ⟨x3, hx3⟩ : ∃ x, x2.alloc (.cells Z1 25 (0, 0)) = x := ⟨_, rfl⟩
  rw [hx3] at hsh1 hr3 hb3 hz3
  obtain ⟨C1, hC1⟩ : ∃ C, x2.heap.size = C := ⟨_, rfl⟩
  rw [hC1] at hsh1
  have HX3 := Lib.hid hx3
  have HC1 := Lib.hid hC1
  clear hx3 hC1 hr2 hb2 hil1
  go_wp2_with (with_reducible refine wp_store_fresh rfl 25 _ _ rfl Z1 _ 25 rfl rfl HSZ1 HYZ1 HONE1 ?_; rw [HX3.out, HC1.out])
  refine (show_page s (by omega) _).mono ?_
  rintro e x4 ⟨rfl, hb4'⟩
  have hr4 := hr3.below hb4'
  have hsh4 := hsh1.below hb4'
  have hb4 : Below R w x4 := hb3.trans (hb4'.mono (by omega))
  have hz4 : R < x4.heap.size := Nat.lt_of_lt_of_le hz3 hb4'.size
  clear hr3 hsh1 hb3 hz3 hb4'
  go_wp2_with fail
  refine (cg _).mono ?_
  rintro e x5 ⟨a2, cap2, rfl, hil2, hb5'⟩
  have hr5 := hr4.below hb5'
  have hsh5 := hsh4.below hb5'
  have hb5 : Below R w x5 := hb4.trans (hb5'.mono (by omega))
  have hz5 : R < x5.heap.size := Nat.lt_of_lt_of_le hz4 hb5'.size
  clear hr4 hsh4 hb4 hz4 hb5' cg
  have hsh2 := ShAt.fresh (cap := cap2) (z := 0) hil2
  have HSZ2 := sheet_sized h (.slice a2 h.supp.length cap2) (.slice none 0 0) 0
  have HONE2 := sheet_one h a2 none h.supp.length 0 cap2 0 0
  have HYZ2 := zero_sized h a2 cap2 0
  obtain ⟨x6, hx6⟩ : ∃ x, x5.alloc (.cells (sheetL h (.slice a2 h.supp.length cap2) (.slice none 0 0) 0).toArray 25 (0, 0)) = x := ⟨_, rfl⟩
  have hbx : Below x5.heap.size x5 x6 := by rw [← hx6]; exact (Below.refl _ x5).alloc (Nat.le_refl _) _
  have hr6 := hr5.below hbx
  have hsh6 := hsh5.below hbx
  have hb6 : Below R w x6 := hb5.trans (hbx.mono (by omega))
  have hz6 : R < x6.heap.size := Nat.lt_of_lt_of_le hz5 hbx.size
  rw [hx6] at hsh2
  obtain ⟨Z2, hZ2⟩ : ∃ Z, (sheetL h (.slice a2 h.supp.length cap2) (.slice none 0 0) 0).toArray = Z := ⟨_, rfl⟩
  rw [hZ2] at HSZ2 HONE2 HYZ2 hx6 ⊢
  obtain ⟨C2, hC2⟩ : ∃ C, x5.heap.size = C := ⟨_, rfl⟩
  rw [hC2] at hsh2
  have HX6 := Lib.hid hx6
  have HC2 := Lib.hid hC2
  clear hx6 hC2 hr5 hsh5 hb5 hz5 hbx hil2
  go_wp2_with (with_reducible refine wp_store_fresh rfl 25 _ _ rfl Z2 _ 25 rfl rfl HSZ2 HYZ2 HONE2 ?_; rw [HX6.out, HC2.out])
  refine (stk_nil _).mono ?_
  rintro e x7 ⟨rfl, hb7'⟩
  have hr7 := hr6.below hb7'
  have hsh7 := hsh6.below hb7'
  have hsk7 := hsh2.below hb7'
  have hb7 : Below R w x7 := hb6.trans (hb7'.mono (by omega))
  have hz7 : R < x7.heap.size := Nat.lt_of_lt_of_le hz6 hb7'.size
  clear hr6 hsh6 hsh2 hb6 hz6 hb7'
  have HSZ3 := sheet_sized shdZ (.slice none 0 0) (.slice none 0 0) 0
  have HONE3 := zero_fresh
  have HYZ3 := zero_sized shdZ none 0 0
  obtain ⟨x8, hx8⟩ : ∃ x, x7.alloc (.cells (sheetL shdZ (.slice none 0 0) (.slice none 0 0) 0).toArray 25 (0, 0)) = x := ⟨_, rfl⟩
  have hbx : Below x7.heap.size x7 x8 := by rw [← hx8]; exact (Below.refl _ x7).alloc (Nat.le_refl _) _
  have hr8 := hr7.below hbx
  have hsh8 := hsh7.below hbx
  have hsk8 := hsk7.below hbx
  have hb8 : Below R w x8 := hb7.trans (hbx.mono (by omega))
  have hz8 : R < x8.heap.size := Nat.lt_of_lt_of_le hz7 hbx.size
  have cS := ssame_page h a1 a2 cap1 cap2 (.slice none 0 0) (.slice none 0 0) 0 0 (by unfold maxLen; omega) x8 hsh8.ints hsk8.ints
  have hc1 := hsh8.cells
  have hc2 := hsk8.cells
  have k16 := fun y (hy : Below x8.heap.size x8 y) => (hsh8.below hy).at (i := 6) (v := .slice none 0 0) rfl
  have k17 := fun y (hy : Below x8.heap.size x8 y) => (hsh8.below hy).at (i := 7) (v := .int .i64 0) rfl
  rw [hZ1] at cS hc1
  rw [hZ2] at cS hc2
  obtain ⟨Z3, hZ3⟩ : ∃ Z, (sheetL shdZ (.slice none 0 0) (.slice none 0 0) 0).toArray = Z := ⟨_, rfl⟩
  rw [hZ3] at HSZ3 HONE3 hx8 ⊢
  have HYZ3 : (#[.int .i64 0, .int .i64 0, .int .i64 0, .bool false, .int .i64 0, .slice none 0 0, .slice none 0 0, .int .i64 0] : Array Value).size = Z3.size := by rw [← hZ3]; rfl
  have HX8 := Lib.hid hx8
  have K16 := Lib.hid k16
  have K17 := Lib.hid k17
  clear hx8 hr7 hsh7 hsk7 hb7 hz7 hbx hsh8 hsk8 k16 k17 hZ3 hZ1 hZ2
  go_wp2_with (first | (with_reducible refine wp_store_fresh rfl 25 _ _ rfl Z3 _ 25 rfl rfl HSZ3 HYZ3 HONE3 ?_; rw [HX8.out]) | (with_reducible refine wpList_load_row rfl 25 _ rfl C1 rfl 25 Z1 (0, 0) _ hc1 Try.underlying25 rfl HSZ1 ?_) | (with_reducible refine wpList_load_row rfl 25 _ rfl C2 rfl 25 Z2 (0, 0) _ hc2 Try.underlying25 rfl HSZ2 ?_))
  refine cS.mono ?_
  rintro e x9 ⟨rfl, hb9'⟩
  have hr9 := hr8.below hb9'
  have k6 := K16.out _ hb9'
  have k7 := K17.out _ hb9'
  have hb9 : Below R w x9 := hb8.trans (hb9'.mono (by omega))
  have hz9 : R < x9.heap.size := Nat.lt_of_lt_of_le hz8 hb9'.size
  clear hr8 hb8 hz8 hb9' hc1 hc2 cS K16 K17
  have g2 : (f == f) = true := beq_self_eq_true f
  have g3 : ((z : Int) == z) = true := beq_self_eq_true _
  go_wp2_with (first
   | (go_at_call 19; refine (at_code _ _ _ _ hr9).mono ?_; rintro e w' ⟨rfl, rfl⟩)
   | (go_at_call 6; refine (lives24 _).mono ?_; rintro e w' ⟨rfl, hb⟩))
  go_ret
  exact ⟨rfl, hb9.trans (hb.mono (by omega))⟩
 ·go_wp2_with fail
  refine (seek_not _ _ _ _ from_ hr0 (by omega)).mono ?_
  rintro e x1 ⟨rfl, rfl⟩
  go_wp2_with (go_at_call 6; refine (lives24 _).mono ?_; rintro e w' ⟨rfl, hb⟩)
  go_ret
  exact ⟨rfl, hb0.trans (hb.mono (by omega))⟩
theorem sheetheadTakes_own : ownKnob Try.prog.godebug = none := by kernel_rfl
theorem sheetheadTakes_laid : laidOutB Try.prog = true := by kernel_rfl
theorem sheetheadTakes_reads : Try.f4.params.toList.all (fun t => Try.prog.readableRec t && decide (t < Try.prog.types.size)) = true := by kernel_rfl
set_option maxRecDepth 100000 in
theorem sheetheadTakes_lifted (os : Os) (started : os.Started) (H : Type) (enc : TypeId × Value → H) :
  ReturnsInHanded {} Try.checked os 4 .any (Rows.sheetheadTakesSpec.pre6 enc Try.prog Try.f4 Rows.sheetheadTakesRow.domain false) (Rows.sheetheadTakesSpec.post enc Try.prog Try.f4 false true false false) := by
 refine returnsInHanded_of_change (C := Try.checked) sheetheadTakes_own started (by kernel_rfl) Try.func4
  (ChangeSpec.witness6 (enc := enc) (C := Try.checked) false ⟨#[], #[.string ⟨#[]⟩, .int .i64 0], []⟩ 8 (by kernel_rfl) (by kernel_rfl) (by kernel_rfl) (by kernel_rfl)) ?_
 intro W base args ds gs before hval0 hW hcnd _
 have hval : ∀ (j : Nat) t v, Try.f4.params[j]? = some t → args[j]? = some v → Value.okWide Try.prog W .any base t v := hval0
 have hW' := hW
 obtain ⟨p, q, hA0, hV, rfl, hfz, hnd⟩ := hW
 have hA : DataW.TrodAll enc Try.prog W 0 (fun _ => true) true Try.f4.params.toList args.toList ds p := hA0
 rw [Try.params4] at hA hval
 obtain ⟨v0, vs0, d0, ds0, p0, q0, hargs, rfl, rfl, h0, r0⟩ := trodAll_cons hA
 obtain ⟨v1, vs1, d1, ds1, p1, q1, rfl, rfl, rfl, h1, r1⟩ := trodAll_cons r0
 obtain ⟨rfl, rfl, rfl⟩ := trodAll_nil r1
 obtain rfl : args = #[v0, v1] := by cases args; simp_all
 obtain ⟨rfl, rfl⟩ := trodVars_none hV
 obtain ⟨a0, rfl, rfl, rfl, w0⟩ := Go.ChangeMaps.open_string Try.underlying9 (hval 0 9 v0 rfl rfl) h0
 obtain ⟨a1, rfl, rfl, rfl, w1⟩ := open_int Try.underlying3 (hval 1 3 v1 rfl rfl) h1
 clear hA0 hval0
 refine (sheetheadTakes_walk a0 a1 w0 w1 W).mono fun e W' ⟨he, hb⟩ => ?_
 subst he
 exact ⟨_, rfl, law_end sheetheadTakes_laid sheetheadTakes_reads rfl Try.underlying4 rfl hW' rfl hb⟩
theorem sheetheadTakes_over : Rows.sheetheadTakesRow.holds Try.pinned (OpenSpec.ofChange Rows.sheetheadTakesSpec) :=
 OpenClaim.holds_of_wide 4 Try.f4 rfl rfl rfl rfl rfl rfl rfl ⟨rfl, rfl, rfl, rfl, rfl⟩ rfl rfl rfl rfl rfl (by kernel_rfl) Try.func4 (by kernel_rfl)
  (of_decide_eq_true (by kernel_rfl)) (by unfold Func.isWrapper; first | (rw [if_pos (by decide +kernel)]; kernel_rfl) | (rw [if_neg (by decide +kernel)]; exact ⟨rfl, rfl⟩))
  (fun os started H enc _ => sheetheadTakes_lifted os started H enc)
theorem sheetheadTakes_holds : Rows.SheetheadTakesSaid :=
 sheetheadTakes_over
#print axioms sheetheadTakes_holds
end Go.Proofs.Ytgbnpmpkfkijdaa
