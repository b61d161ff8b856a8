/- The place of any number, and the number of any place, are what the document's own answers say, or there is none; both lead back; and the chapter's example comes out. Conditions: none but the card's: what the listed variable holds when the call begins, tied to the program's text. -/
import Derived.Test.YtefoiijpgpjooaaDoorCards
import Derived.Test.YtefoiijpgpjooaaDoorTie
import Derived.Test.YtefoiijpgpjooaaDoorSlive
import Derived.Test.YtefoiijpgpjooaaDoorSref
import Derived.Test.YtefoiijpgpjooaaDoorLaws
import Derived.ProofKit
import Derived.LaidMore
import Derived.OpenShut
import Derived.Lay
import Derived.SizedLaws
import Derived.SevenTiedAt
import Derived.Stop.Joined
namespace Go.Proofs.YtefoiijpgpjooaaDoor
open Go.ChangeShapes Go.WideShapes Go.ChangeAt Go.RowKit
set_option linter.unusedVariables false

set_option maxRecDepth 100000 in
set_option maxHeartbeats 2000000 in
theorem scanAt_walk (k : Int) (w : World) (_ : (Lit.int .i64 k).wf = true) (hp : HasScan w) :
    Calls Tryd.prog 3 #[.int .i64 k] w fun e w' => e = .returned (.bool true) ∧ Below w.heap.size w w' := by
  have ha := sat_code k w hp
  have ho := sof_code k w hp
  have hl := lives11 w hp
  by_cases hk : k < 0 ∨ 63 < k
  · rw [atV_out hk] at ha
    rw [ofV_out hk] at ho
    by_cases h0 : k < 0
    · have t0 : decide (k < 0) = true := by simpa using h0
      clear hk h0 hp
      go_enter Tryd.func3, Tryd.ntmps3
      go_wp2_with fail
      refine ha.mono ?_
      rintro e w1 ⟨rfl, rfl⟩
      go_wp2_with fail
      refine ho.mono ?_
      rintro e w1 ⟨rfl, rfl⟩
      go_wp2_with fail
      refine hl.mono ?_
      rintro e w1 ⟨rfl, rfl⟩
      go_wp2
      go_ret
      exact ⟨rfl, Below.refl _ _⟩
    · have t0 : decide (k < 0) = false := by simpa using h0
      have t1 : decide (63 < k) = true := by simp; omega
      clear hk h0 hp
      go_enter Tryd.func3, Tryd.ntmps3
      go_wp2_with fail
      refine ha.mono ?_
      rintro e w1 ⟨rfl, rfl⟩
      go_wp2_with fail
      refine ho.mono ?_
      rintro e w1 ⟨rfl, rfl⟩
      go_wp2_with fail
      refine hl.mono ?_
      rintro e w1 ⟨rfl, rfl⟩
      go_wp2
      go_ret
      exact ⟨rfl, Below.refl _ _⟩
  · obtain ⟨i, rfl⟩ : ∃ i : Nat, k = (i : Int) := ⟨k.toNat, by omega⟩
    have hi : i < 64 := by omega
    obtain ⟨p1, p2⟩ := place_num i hi
    obtain ⟨q1, q2⟩ := num_place i hi
    have hb := sof_code ((placeAt i : Nat) : Int) w hp
    rw [atV_in hi] at ha
    rw [ofV_in hi] at ho
    rw [ofV_in p1, p2] at hb
    have t0 : decide ((i : Int) < 0) = false := by simp
    have t1 : decide (63 < (i : Int)) = false := by simp; omega
    have t2 : decide (63 < i) = false := by simp; omega
    have HL := Lib.hid (fun (x : World) (hx : Below w.heap.size w x) => lives11 x (hp.below hx))
    have HORD := Lib.hid order_page
    have hx1 := fun w => arr_index placeF hi w
    have hx2 := fun w => arr_index placeF q1 w
    rw [show placeF (numAt i) = (i : Int) by unfold placeF; rw [q2]] at hx2
    rw [show placeF i = ((placeAt i : Nat) : Int) from rfl] at hx1
    unfold BlkGives at HORD
    generalize arrA placeF = Z at HORD hx1 hx2
    generalize numAt i = b at ho hx2 q1
    generalize placeAt i = a at ha hb hx1 p1
    have te : ((i : Int) == (i : Int)) = true := by simp
    have ta : ((a : Int) == (a : Int)) = true := by simp
    clear hk p2 q2 hl hp
    go_enter Tryd.func3, Tryd.ntmps3
    go_wp2_with fail
    refine ha.mono ?_
    rintro e w1 ⟨rfl, rfl⟩
    go_wp2_with fail
    refine ho.mono ?_
    rintro e w1 ⟨rfl, rfl⟩
    go_wp2_with fail
    refine hb.mono ?_
    rintro e w1 ⟨rfl, rfl⟩
    go_wp2_with fail
    refine (HORD.out _).mono ?_
    rintro e w1 ⟨rfl, hb1⟩
    have hz1 := hb1.size
    go_wp2_with fail
    refine (HORD.out _).mono ?_
    rintro e w2 ⟨rfl, hb2⟩
    have hb3 := hb1.trans (hb2.mono hz1)
    have hl := HL.out _ hb3
    clear hb1 hb2
    go_wp2_with fail
    refine hl.mono ?_
    rintro e w1 ⟨rfl, rfl⟩
    go_wp2
    go_ret
    exact ⟨rfl, hb3⟩

theorem scanAt_own : ownKnob Tryd.prog.godebug = none := by kernel_rfl
theorem scanAt_laid : laidOutB Tryd.prog = true := by kernel_rfl
theorem scanAt_reads : Tryd.f3.params.toList.all (fun t => Tryd.prog.readableRec t && decide (t < Tryd.prog.types.size)) = true := by kernel_rfl

set_option maxRecDepth 100000 in
theorem scanAt_lifted (os : Os) (started : os.Started) (H : Type) (enc : TypeId × Value → H) :
    ReturnsInHanded {} Tryd.checked os 3 .any (fun w args => (Rows.scanAtSpec.pre enc Tryd.prog Tryd.f3 Rows.scanAtRow.domain false w args ∧ laidMetH Tryd.prog Rows.scanAtRow.laid w) ∧ sizedMet enc Tryd.prog Tryd.f3 (OpenSpec.ofChange Rows.scanAtSpec) false w args)
      (Rows.scanAtSpec.post enc Tryd.prog Tryd.f3 false true false false) := by
  refine returnsInHanded_of_change_and (C := Tryd.checked) (X := fun w _ => laidMetH Tryd.prog Rows.scanAtRow.laid w) (fun _ _ _ hh h => h.of_heap hh) scanAt_own started (by kernel_rfl) Tryd.func3
    (ChangeSpec.witness_shaped (enc := enc) (C := Tryd.checked) (os := os) (X := fun w _ => laidMetH Tryd.prog Rows.scanAtRow.laid w) false (World.laidAll Tryd.prog os Rows.scanAtRow.laid) #[.int .i64 0] 8 (World.laidAll_os _ _ _)
      (World.shaped_of_ZipB (by kernel_rfl) (by kernel_rfl)) (by kernel_rfl) (by kernel_rfl) (by kernel_rfl)
      (by rw [MakeChecks.laidMetH_plain _ _ _ (by kernel_rfl)]; exact laidMet_laidAll _ (by kernel_rfl) (by kernel_rfl))) ?_
  intro W base args ds gs before hval0 hW _ hsz0 hL _
  have hval : ∀ (j : Nat) t v, Tryd.f3.params[j]? = some t → args[j]? = some v → Value.okWide Tryd.prog W .any base t v := hval0
  have hW' := hW
  obtain ⟨p, q, hA0, hV, rfl, hfz, hnd⟩ := hW
  have hA : DataW.TrodAll enc Tryd.prog W 0 (fun _ => true) true Tryd.f3.params.toList args.toList ds p := hA0
  rw [Tryd.params3] at hA hval
  obtain ⟨v0, vs0, d0, ds0, p0, q0, hargs, rfl, rfl, h0, r0⟩ := trodAll_cons hA
  obtain ⟨rfl, rfl, rfl⟩ := trodAll_nil r0
  obtain rfl : args = #[v0] := by cases args; simp_all
  obtain ⟨rfl, rfl⟩ := trodVars_none hV
  obtain ⟨a0, rfl, rfl, rfl, w0⟩ := open_int Tryd.underlying3 (hval 0 3 v0 rfl rfl) h0
  clear hA0 hval0
  refine (scanAt_walk a0 W w0 (scan_laid hL ⟨by simp [Rows.scanAtRow], by kernel_rfl⟩)).mono fun e W' ⟨he, hb⟩ => ?_
  subst he
  exact ⟨_, rfl, law_end scanAt_laid scanAt_reads rfl Tryd.underlying4 rfl hW' rfl hb⟩

theorem scanAt_over : Rows.scanAtRow.holds Tryd.pinned (OpenSpec.ofChange Rows.scanAtSpec) :=
  OpenClaim.holds_of_wide 3 Tryd.f3 rfl rfl rfl rfl rfl rfl rfl ⟨rfl, rfl, rfl, rfl, rfl⟩ rfl rfl rfl rfl rfl (by kernel_rfl) Tryd.func3 (by kernel_rfl)
    (of_decide_eq_true (by kernel_rfl)) (by unfold Func.isWrapper; first | (rw [if_pos (by decide +kernel)]; kernel_rfl) | (rw [if_neg (by decide +kernel)]; exact ⟨rfl, rfl⟩))
    (fun os started H enc _ => scanAt_lifted os started H enc)

theorem scanAt_holds : Rows.ScanAtCardSaid :=
  Claim7.holds_tied_plain_at .later [] [.data] true Rows.scanAtCard.stood.harness false scanAt_over (fun _ h => by cases h) (by kernel_rfl) (fun _ h => by cases h) scanAt_row_tie rfl ⟨rfl, rfl⟩ (by kernel_rfl) rfl
    (fun f fn hf hfn => by
      obtain rfl : f = 3 := Option.some.inj ((show Tryd.prog.funcNamed "overspill/overspilllaw11.ScanAt" = some 3 by kernel_rfl).symm.trans hf) |>.symm
      obtain rfl : fn = Tryd.f3 := (Option.some.inj (Tryd.func3.symm.trans hfn)).symm
      exact ⟨by kernel_rfl, fun j t ht => by
        rw [Tryd.params3] at ht
        have hm : t ∈ [3] := by simpa using Array.mem_of_getElem? ht
        have hall : ([3].all fun u => !Tryd.prog.wantsStandIn u) = true := by kernel_rfl
        exact (show Tryd.prog.wantsStandIn t = false by simpa using List.all_eq_true.1 hall t hm)⟩)
    (by kernel_rfl)
#print axioms scanAt_holds
end Go.Proofs.YtefoiijpgpjooaaDoor
