/- In a row, and in a column, of a block what stands behind is told later; and the chapter's example comes out. Conditions: none but the card's: what the listed variable holds when the call begins, tied to the program's text. -/
import Derived.Test.YtefoiijpgpjooaaDoorCards
import Derived.Test.YtefoiijpgpjooaaDoorTie
import Derived.Test.YtefoiijpgpjooaaDoorSlive
import Derived.Test.YtefoiijpgpjooaaDoorLaws
import Derived.ProofKit
import Derived.LaidMore
import Derived.OpenShut
import Derived.Lay
import Derived.SizedLaws
import Derived.SevenTiedAt
import Derived.Stop.Joined
namespace Go.Proofs.YtefoiijpgpjooaaDoor
open Go.ChangeShapes Go.WideShapes Go.ChangeAt Go.RowKit

theorem and_seven : ∀ c : Fin 256, bits .and .u8 ((c.val : Nat) : Int) 7 = ((c.val % 8 : Nat) : Int) := by decide +kernel
theorem later_row : ∀ y, y < 8 → ∀ x, x < 8 → ∀ k, k < 8 → x + k < 8 → (decide (0 < k) != decide (numAt (8 * y + x) < numAt (8 * y + x + k))) = false := by decide +kernel
theorem later_column : ∀ y, y < 8 → ∀ x, x < 8 → ∀ k, k < 8 → y + k < 8 → (decide (0 < k) != decide (numAt (8 * y + x) < numAt (8 * (y + k) + x))) = false := by decide +kernel
/-- A byte under seven, as the walk meets it. -/
theorem byte_seven {a : Int} (h : (Lit.int .u8 a).wf = true) : ∃ x : Nat, x < 8 ∧ bits .and .u8 a 7 = (x : Int) := by
  have h' : (decide (IntKind.u8.min ≤ a) && decide (a ≤ IntKind.u8.max)) = true := h
  rw [Bool.and_eq_true, decide_eq_true_iff, decide_eq_true_iff] at h'
  have e1 : IntKind.u8.min = 0 := rfl
  have e2 : IntKind.u8.max = 255 := rfl
  obtain ⟨c, rfl⟩ : ∃ c : Nat, a = (c : Int) := ⟨a.toNat, by omega⟩
  have := and_seven ⟨c, by omega⟩
  exact ⟨c % 8, by omega, this⟩
set_option maxRecDepth 100000 in
set_option maxHeartbeats 2000000 in
theorem scanLater_walk (a0 a1 a2 : Int) (w : World) (w0 : (Lit.int .u8 a0).wf = true) (w1 : (Lit.int .u8 a1).wf = true) (w2 : (Lit.int .u8 a2).wf = true) (hp : HasScan w) :
    Calls Tryd.prog 5 #[.int .u8 a0, .int .u8 a1, .int .u8 a2] w fun e w' => e = .returned (.bool true) ∧ Below w.heap.size w w' := by
  obtain ⟨y, hy, b0⟩ := byte_seven w0
  obtain ⟨x, hx, b1⟩ := byte_seven w1
  obtain ⟨k, hk, b2⟩ := byte_seven w2
  have hl := lives11 w hp
  have ho := sof_code ((8 * y + x : Nat) : Int) w hp
  rw [ofV_in (by omega)] at ho
  have e0 : (8 : Int) * (y : Int) + (x : Int) = ((8 * y + x : Nat) : Int) := by omega
  have hr := later_row y hy x hx k hk
  have hc := later_column y hy x hx k hk
  have hor := sof_code ((8 * y + x + k : Nat) : Int) w hp
  have hoc := sof_code ((8 * (y + k) + x : Nat) : Int) w hp
  have HOR := Lib.hid (fun (h : x + k < 8) => (by rw [ofV_in (by omega)] at hor; exact hor : Calls Tryd.prog 7 #[.int .i64 ((8 * y + x + k : Nat) : Int)] w fun e w' => e = .returned (.tuple #[.int .i64 ((numAt (8 * y + x + k) : Nat) : Int), .bool true]) ∧ w = w'))
  have HOC := Lib.hid (fun (h : y + k < 8) => (by rw [ofV_in (by omega)] at hoc; exact hoc : Calls Tryd.prog 7 #[.int .i64 ((8 * (y + k) + x : Nat) : Int)] w fun e w' => e = .returned (.tuple #[.int .i64 ((numAt (8 * (y + k) + x) : Nat) : Int), .bool true]) ∧ w = w'))
  have HR := Lib.hid hr
  have HC := Lib.hid hc
  have E1 := Lib.hid (show (8 : Int) * (y : Int) + (x : Int) + (k : Int) = ((8 * y + x + k : Nat) : Int) by omega)
  have E2 := Lib.hid (show (8 : Int) * ((y : Int) + (k : Int)) + (x : Int) = ((8 * (y + k) + x : Nat) : Int) by omega)
  have HO := Lib.hid ho
  have E0 := Lib.hid e0
  clear hor hoc hr hc w0 w1 w2 hp ho e0
  go_enter Tryd.func5, Tryd.ntmps5
  go_wp2_with fail
  rw [E0.out]
  refine HO.out.mono ?_
  rintro e w1 ⟨rfl, rfl⟩
  obtain ⟨b, hb⟩ : ∃ b, decide (0 < k) = b := ⟨_, rfl⟩
  have hb' : decide ((0 : Int) < (k : Int)) = b := by rw [← hb]; simp
  have bb : (b != b) = false := by cases b <;> rfl
  by_cases h1 : x + k < 8
  · have t1 : decide ((x : Int) + (k : Int) < 8) = true := by simp; omega
    have t1' : decide (x + k < 8) = true := by simp; omega
    have q1 := HR.out h1
    have o1 := HOR.out h1
    generalize numAt (8 * y + x + k) = m1 at q1 o1
    have r1 : decide (numAt (8 * y + x) < m1) = b := by rw [← hb]; rw [bne_eq_false_iff_eq] at q1; exact q1.symm
    have r1' : decide (((numAt (8 * y + x) : Nat) : Int) < (m1 : Int)) = b := by rw [← r1]; simp
    by_cases h2 : y + k < 8
    · have t2 : decide ((y : Int) + (k : Int) < 8) = true := by simp; omega
      have t2' : decide (y + k < 8) = true := by simp; omega
      have q2 := HC.out h2
      have o2 := HOC.out h2
      generalize numAt (8 * (y + k) + x) = m2 at q2 o2
      have r2 : decide (numAt (8 * y + x) < m2) = b := by rw [← hb]; rw [bne_eq_false_iff_eq] at q2; exact q2.symm
      have r2' : decide (((numAt (8 * y + x) : Nat) : Int) < (m2 : Int)) = b := by rw [← r2]; simp
      generalize numAt (8 * y + x) = m0 at r1 r1' r2 r2' ⊢
      have O1 := Lib.hid o1
      have O2 := Lib.hid o2
      clear h1 h2 o1 o2 q1 q2
      go_wp2_with fail
      rw [E1.out]
      refine O1.out.mono ?_
      rintro e w1 ⟨rfl, rfl⟩
      go_wp2_with fail
      rw [E2.out]
      refine O2.out.mono ?_
      rintro e w1 ⟨rfl, rfl⟩
      go_wp2_with fail
      refine hl.mono ?_
      rintro e w1 ⟨rfl, rfl⟩
      go_wp2
      go_ret
      exact ⟨rfl, Below.refl _ _⟩
    · have t2 : decide ((y : Int) + (k : Int) < 8) = false := by simp; omega
      have t2' : decide (y + k < 8) = false := by simp; omega
      generalize numAt (8 * y + x) = m0 at r1 r1' ⊢
      have O1 := Lib.hid o1
      clear h1 h2 o1 q1
      go_wp2_with fail
      rw [E1.out]
      refine O1.out.mono ?_
      rintro e w1 ⟨rfl, rfl⟩
      go_wp2_with fail
      refine hl.mono ?_
      rintro e w1 ⟨rfl, rfl⟩
      go_wp2
      go_ret
      exact ⟨rfl, Below.refl _ _⟩
  · have t1 : decide ((x : Int) + (k : Int) < 8) = false := by simp; omega
    have t1' : decide (x + k < 8) = false := by simp; omega
    by_cases h2 : y + k < 8
    · have t2 : decide ((y : Int) + (k : Int) < 8) = true := by simp; omega
      have t2' : decide (y + k < 8) = true := by simp; omega
      have q2 := HC.out h2
      have o2 := HOC.out h2
      generalize numAt (8 * (y + k) + x) = m2 at q2 o2
      have r2 : decide (numAt (8 * y + x) < m2) = b := by rw [← hb]; rw [bne_eq_false_iff_eq] at q2; exact q2.symm
      have r2' : decide (((numAt (8 * y + x) : Nat) : Int) < (m2 : Int)) = b := by rw [← r2]; simp
      generalize numAt (8 * y + x) = m0 at r2 r2' ⊢
      have O2 := Lib.hid o2
      clear h1 h2 o2 q2
      go_wp2_with fail
      rw [E2.out]
      refine O2.out.mono ?_
      rintro e w1 ⟨rfl, rfl⟩
      go_wp2_with fail
      refine hl.mono ?_
      rintro e w1 ⟨rfl, rfl⟩
      go_wp2
      go_ret
      exact ⟨rfl, Below.refl _ _⟩
    · have t2 : decide ((y : Int) + (k : Int) < 8) = false := by simp; omega
      have t2' : decide (y + k < 8) = false := by simp; omega
      clear h1 h2
      go_wp2_with fail
      refine hl.mono ?_
      rintro e w1 ⟨rfl, rfl⟩
      go_wp2
      go_ret
      exact ⟨rfl, Below.refl _ _⟩

theorem scanLater_own : ownKnob Tryd.prog.godebug = none := by kernel_rfl
theorem scanLater_laid : laidOutB Tryd.prog = true := by kernel_rfl
theorem scanLater_reads : Tryd.f5.params.toList.all (fun t => Tryd.prog.readableRec t && decide (t < Tryd.prog.types.size)) = true := by kernel_rfl

set_option maxRecDepth 100000 in
theorem scanLater_lifted (os : Os) (started : os.Started) (H : Type) (enc : TypeId × Value → H) :
    ReturnsInHanded {} Tryd.checked os 5 .any (fun w args => (Rows.scanLaterSpec.pre enc Tryd.prog Tryd.f5 Rows.scanLaterRow.domain false w args ∧ laidMetH Tryd.prog Rows.scanLaterRow.laid w) ∧ sizedMet enc Tryd.prog Tryd.f5 (OpenSpec.ofChange Rows.scanLaterSpec) false w args)
      (Rows.scanLaterSpec.post enc Tryd.prog Tryd.f5 false true false false) := by
  refine returnsInHanded_of_change_and (C := Tryd.checked) (X := fun w _ => laidMetH Tryd.prog Rows.scanLaterRow.laid w) (fun _ _ _ hh h => h.of_heap hh) scanLater_own started (by kernel_rfl) Tryd.func5
    (ChangeSpec.witness_shaped (enc := enc) (C := Tryd.checked) (os := os) (X := fun w _ => laidMetH Tryd.prog Rows.scanLaterRow.laid w) false (World.laidAll Tryd.prog os Rows.scanLaterRow.laid) #[.int .u8 0, .int .u8 0, .int .u8 0] 8 (World.laidAll_os _ _ _)
      (World.shaped_of_ZipB (by kernel_rfl) (by kernel_rfl)) (by kernel_rfl) (by kernel_rfl) (by kernel_rfl)
      (by rw [MakeChecks.laidMetH_plain _ _ _ (by kernel_rfl)]; exact laidMet_laidAll _ (by kernel_rfl) (by kernel_rfl))) ?_
  intro W base args ds gs before hval0 hW _ hsz0 hL _
  have hval : ∀ (j : Nat) t v, Tryd.f5.params[j]? = some t → args[j]? = some v → Value.okWide Tryd.prog W .any base t v := hval0
  have hW' := hW
  obtain ⟨p, q, hA0, hV, rfl, hfz, hnd⟩ := hW
  have hA : DataW.TrodAll enc Tryd.prog W 0 (fun _ => true) true Tryd.f5.params.toList args.toList ds p := hA0
  rw [Tryd.params5] at hA hval
  obtain ⟨v0, vs0, d0, ds0, p0, q0, hargs, rfl, rfl, h0, r0⟩ := trodAll_cons hA
  obtain ⟨v1, vs1, d1, ds1, p1, q1, rfl, rfl, rfl, h1, r1⟩ := trodAll_cons r0
  obtain ⟨v2, vs2, d2, ds2, p2, q2, rfl, rfl, rfl, h2, r2⟩ := trodAll_cons r1
  obtain ⟨rfl, rfl, rfl⟩ := trodAll_nil r2
  obtain rfl : args = #[v0, v1, v2] := by cases args; simp_all
  obtain ⟨rfl, rfl⟩ := trodVars_none hV
  obtain ⟨a0, rfl, rfl, rfl, w0⟩ := open_int Tryd.underlying5 (hval 0 5 v0 rfl rfl) h0
  obtain ⟨a1, rfl, rfl, rfl, w1⟩ := open_int Tryd.underlying5 (hval 1 5 v1 rfl rfl) h1
  obtain ⟨a2, rfl, rfl, rfl, w2⟩ := open_int Tryd.underlying5 (hval 2 5 v2 rfl rfl) h2
  clear hA0 hval0
  refine (scanLater_walk a0 a1 a2 W w0 w1 w2 (scan_laid hL ⟨by simp [Rows.scanLaterRow], by kernel_rfl⟩)).mono fun e W' ⟨he, hb⟩ => ?_
  subst he
  exact ⟨_, rfl, law_end scanLater_laid scanLater_reads rfl Tryd.underlying4 rfl hW' rfl hb⟩

theorem scanLater_over : Rows.scanLaterRow.holds Tryd.pinned (OpenSpec.ofChange Rows.scanLaterSpec) :=
  OpenClaim.holds_of_wide 5 Tryd.f5 rfl rfl rfl rfl rfl rfl rfl ⟨rfl, rfl, rfl, rfl, rfl⟩ rfl rfl rfl rfl rfl (by kernel_rfl) Tryd.func5 (by kernel_rfl)
    (of_decide_eq_true (by kernel_rfl)) (by unfold Func.isWrapper; first | (rw [if_pos (by decide +kernel)]; kernel_rfl) | (rw [if_neg (by decide +kernel)]; exact ⟨rfl, rfl⟩))
    (fun os started H enc _ => scanLater_lifted os started H enc)

theorem scanLater_holds : Rows.ScanLaterCardSaid :=
  Claim7.holds_tied_plain_at .later [] [.data] true Rows.scanLaterCard.stood.harness false scanLater_over (fun _ h => by cases h) (by kernel_rfl) (fun _ h => by cases h) scanLater_row_tie rfl ⟨rfl, rfl⟩ (by kernel_rfl) rfl
    (fun f fn hf hfn => by
      obtain rfl : f = 5 := Option.some.inj ((show Tryd.prog.funcNamed "overspill/overspilllaw11.ScanLater" = some 5 by kernel_rfl).symm.trans hf) |>.symm
      obtain rfl : fn = Tryd.f5 := (Option.some.inj (Tryd.func5.symm.trans hfn)).symm
      exact ⟨by kernel_rfl, fun j t ht => by
        rw [Tryd.params5] at ht
        have hm : t ∈ [5, 5, 5] := by simpa using Array.mem_of_getElem? ht
        have hall : ([5, 5, 5].all fun u => !Tryd.prog.wantsStandIn u) = true := by kernel_rfl
        exact (show Tryd.prog.wantsStandIn t = false by simpa using List.all_eq_true.1 hall t hm)⟩)
    (by kernel_rfl)
#print axioms scanLater_holds
end Go.Proofs.YtefoiijpgpjooaaDoor
