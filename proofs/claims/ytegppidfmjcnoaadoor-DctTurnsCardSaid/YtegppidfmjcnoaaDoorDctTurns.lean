/- Rows for columns, both ways tell rows for columns (P14.3); and the chapter's example comes out. Conditions: none but the card's: what the listed variable (package dct's table of weights) holds is tied to the program's text over a pruned copy of the project. -/
import Derived.Test.YtegppidfmjcnoaaDoorCards
import Derived.Test.YtegppidfmjcnoaaDoorTie
import Derived.Test.YtegppidfmjcnoaaDoorDlive
import Derived.Test.YtegppidfmjcnoaaDoorLaws
import Derived.Test.YtegppidfmjcnoaaDoorCalm
import Derived.ProofKit
import Derived.LaidMore
import Derived.OpenShut
import Derived.Lay
import Derived.SizedLaws
import Derived.SevenTiedAt
import Derived.Stop.Joined
namespace Go.Proofs.YtegppidfmjcnoaaDoor
open Go.ChangeShapes Go.WideShapes Go.ChangeAt Go.RowKit
set_option linter.unusedVariables false

set_option maxRecDepth 100000 in
set_option maxHeartbeats 4000000 in
theorem dctTurns_walk (f : Nat → Int) (w : World) (_ : ∀ i, i < 64 → (Lit.int .i64 (f i)).wf = true) (hp : HasDct w) :
    Calls Tryd.prog 5 #[.agg (arrA f)] w fun e w' => e = .returned (.bool true) ∧ Below w.heap.size w w' := by
  obtain ⟨B, hB⟩ : ∃ B, w.heap.size = B := ⟨_, rfl⟩
  obtain ⟨wA, hwA⟩ : ∃ wA, w.alloc (.cells (arn 64 f) 22 (0, 0)) = wA := ⟨_, rfl⟩
  have hzA : wA.heap.size = B + 1 := by rw [← hwA, ← hB]; simp
  have hA0 : wA.heap[B]? = some (.cells (arn 64 f) 22 (0, 0)) := by rw [← hwA, ← hB]; exact heap_alloc_new w _
  have hbA : Below B w wA := by rw [← hwA, ← hB]; exact (Below.refl _ w).alloc (Nat.le_refl _) _
  have hpA : HasDct wA := hp.below (by rw [hB]; exact hbA)
  have HX := Lib.hid (fun (x : World) (hx : Below (B + 1) wA x) => ((hx.block B (by omega)).trans hA0 : x.heap[B]? = some (.cells (arn 64 f) 22 (0, 0))))
  have K : ∀ (x y : World), Below (B + 1) wA x → Below x.heap.size x y → Below (B + 1) wA y := fun x y hx hy => hx.trans (hy.mono (by have := hx.size; omega))
  have HP : ∀ x : World, Below (B + 1) wA x → HasDct x := fun x hx => hpA.below (by rw [hzA]; exact hx)
  have C1 := Lib.hid (fun (x : World) (hx : Below (B + 1) wA x) => ((ltr_code f x).mono fun e y h => ⟨h.1, K x y hx h.2⟩ : Calls Tryd.prog 12 #[.agg (arn 64 f)] x fun e y => e = .returned (.agg (arn 64 (trB f))) ∧ Below (B + 1) wA y))
  have C2 := Lib.hid (fun (x : World) (hx : Below (B + 1) wA x) => ((forward_at (dctK_turns kF (-2048) 2047 f) x (HP x hx)).mono fun e y h => ⟨h.1, K x y hx h.2⟩ : Calls Tryd.prog 7 #[.agg (arn 64 (trB f))] x fun e y => e = .returned (.agg (arn 64 (trB (fwdB f)))) ∧ Below (B + 1) wA y))
  have C3 := Lib.hid (fun (x : World) (hx : Below (B + 1) wA x) => ((forward_at (fun _ _ => rfl) x (HP x hx)).mono fun e y h => ⟨h.1, K x y hx h.2⟩ : Calls Tryd.prog 7 #[.agg (arn 64 f)] x fun e y => e = .returned (.agg (arn 64 (fwdB f))) ∧ Below (B + 1) wA y))
  have C4 := Lib.hid (fun (x : World) (hx : Below (B + 1) wA x) => ((ltr_code (fwdB f) x).mono fun e y h => ⟨h.1, K x y hx h.2⟩ : Calls Tryd.prog 12 #[.agg (arn 64 (fwdB f))] x fun e y => e = .returned (.agg (arn 64 (trB (fwdB f)))) ∧ Below (B + 1) wA y))
  have C5 := Lib.hid (fun (x : World) (hx : Below (B + 1) wA x) => ((inverse_at (dctK_turns kI (-256) 255 f) x (HP x hx)).mono fun e y h => ⟨h.1, K x y hx h.2⟩ : Calls Tryd.prog 10 #[.agg (arn 64 (trB f))] x fun e y => e = .returned (.agg (arn 64 (trB (invB f)))) ∧ Below (B + 1) wA y))
  have C6 := Lib.hid (fun (x : World) (hx : Below (B + 1) wA x) => ((inverse_at (fun _ _ => rfl) x (HP x hx)).mono fun e y h => ⟨h.1, K x y hx h.2⟩ : Calls Tryd.prog 10 #[.agg (arn 64 f)] x fun e y => e = .returned (.agg (arn 64 (invB f))) ∧ Below (B + 1) wA y))
  have C7 := Lib.hid (fun (x : World) (hx : Below (B + 1) wA x) => ((ltr_code (invB f) x).mono fun e y h => ⟨h.1, K x y hx h.2⟩ : Calls Tryd.prog 12 #[.agg (arn 64 (invB f))] x fun e y => e = .returned (.agg (arn 64 (trB (invB f)))) ∧ Below (B + 1) wA y))
  have C8 := Lib.hid (fun (x : World) (hx : Below (B + 1) wA x) => ((lives14 x (HP x hx)).mono fun e y h => ⟨h.1, K x y hx h.2⟩ : Calls Tryd.prog 9 #[] x fun e y => e = .returned (.bool true) ∧ Below (B + 1) wA y))
  have q1 := arn_equal (trB (fwdB f))
  have q2 := arn_equal (trB (invB f))
  have HSX : (Tryd.prog.info? 22).map (·.size) = some (arn 64 f).size := arr_sized _
  rw [← arn_64]
  have HWA := Lib.hid hwA
  have HB := Lib.hid hB
  have HBA := Lib.hid hbA
  generalize arn 64 (trB (fwdB f)) = X1 at C2 C4 q1
  generalize arn 64 (trB (invB f)) = X2 at C5 C7 q2
  generalize arn 64 (fwdB f) = X3 at C3 C4
  generalize arn 64 (invB f) = X4 at C6 C7
  generalize arn 64 (trB f) = X5 at C1 C2 C5
  generalize arn 64 f = X at *
  clear hwA hB hbA hA0 hpA hp K HP hzA
  go_enter Tryd.func5, Tryd.ntmps5
  go_wp2
  rw [HWA.out, HB.out]
  refine wp_region_calm (S := fun x => Below (B + 1) wA x) 20 (by kernel_rfl) (by kernel_rfl) (Below.refl _ _).drew ?_
  simp only [List.take_succ_cons, List.take_zero, List.drop_succ_cons, List.drop_zero]
  refine calm_load 22 _ B 22 X (0, 0) _ (by kernel_rfl) rfl rfl (fun x hx => HX.out x hx) Tryd.underlying22 rfl HSX ?_
  simp only [Act.put, List.setIfInBounds_toArray, List.set_cons_zero, List.set_cons_succ]
  refine calm_call (by kernel_rfl) C1.out (fun _ => by kernel_rfl) ?_
  simp only [Act.put, List.setIfInBounds_toArray, List.set_cons_zero, List.set_cons_succ]
  refine calm_call (by kernel_rfl) C2.out (fun _ => by kernel_rfl) ?_
  simp only [Act.put, List.setIfInBounds_toArray, List.set_cons_zero, List.set_cons_succ]
  refine calm_load 22 _ B 22 X (0, 0) _ (by kernel_rfl) rfl rfl (fun x hx => HX.out x hx) Tryd.underlying22 rfl HSX ?_
  simp only [Act.put, List.setIfInBounds_toArray, List.set_cons_zero, List.set_cons_succ]
  refine calm_call (by kernel_rfl) C3.out (fun _ => by kernel_rfl) ?_
  simp only [Act.put, List.setIfInBounds_toArray, List.set_cons_zero, List.set_cons_succ]
  refine calm_call (by kernel_rfl) C4.out (fun _ => by kernel_rfl) ?_
  simp only [Act.put, List.setIfInBounds_toArray, List.set_cons_zero, List.set_cons_succ]
  refine calm_value (v := ?v6) (by kernel_rfl) ?m ?_; (case m => (intro x _; go_simp; try with_reducible rfl))
  simp only [Act.put, List.setIfInBounds_toArray, List.set_cons_zero, List.set_cons_succ]
  refine calm_value (v := ?v7) (by kernel_rfl) ?m ?_; (case m => (intro x _; go_simp; try with_reducible rfl))
  simp only [Act.put, List.setIfInBounds_toArray, List.set_cons_zero, List.set_cons_succ]
  refine calm_load 22 _ B 22 X (0, 0) _ (by kernel_rfl) rfl rfl (fun x hx => HX.out x hx) Tryd.underlying22 rfl HSX ?_
  simp only [Act.put, List.setIfInBounds_toArray, List.set_cons_zero, List.set_cons_succ]
  refine calm_call (by kernel_rfl) C1.out (fun _ => by kernel_rfl) ?_
  simp only [Act.put, List.setIfInBounds_toArray, List.set_cons_zero, List.set_cons_succ]
  refine calm_call (by kernel_rfl) C5.out (fun _ => by kernel_rfl) ?_
  simp only [Act.put, List.setIfInBounds_toArray, List.set_cons_zero, List.set_cons_succ]
  refine calm_load 22 _ B 22 X (0, 0) _ (by kernel_rfl) rfl rfl (fun x hx => HX.out x hx) Tryd.underlying22 rfl HSX ?_
  simp only [Act.put, List.setIfInBounds_toArray, List.set_cons_zero, List.set_cons_succ]
  refine calm_call (by kernel_rfl) C6.out (fun _ => by kernel_rfl) ?_
  simp only [Act.put, List.setIfInBounds_toArray, List.set_cons_zero, List.set_cons_succ]
  refine calm_call (by kernel_rfl) C7.out (fun _ => by kernel_rfl) ?_
  simp only [Act.put, List.setIfInBounds_toArray, List.set_cons_zero, List.set_cons_succ]
  refine calm_value (v := ?v14) (by kernel_rfl) ?m ?_; (case m => (intro x _; go_simp; try with_reducible rfl))
  simp only [Act.put, List.setIfInBounds_toArray, List.set_cons_zero, List.set_cons_succ]
  refine calm_value (v := ?v15) (by kernel_rfl) ?m ?_; (case m => (intro x _; go_simp; try with_reducible rfl))
  simp only [Act.put, List.setIfInBounds_toArray, List.set_cons_zero, List.set_cons_succ]
  refine calm_value (v := ?v16) (by kernel_rfl) ?m ?_; (case m => (intro x _; go_simp; try with_reducible rfl))
  simp only [Act.put, List.setIfInBounds_toArray, List.set_cons_zero, List.set_cons_succ]
  refine calm_call (by kernel_rfl) C8.out (fun _ => by kernel_rfl) ?_
  simp only [Act.put, List.setIfInBounds_toArray, List.set_cons_zero, List.set_cons_succ]
  refine calm_value (v := ?v18) (by kernel_rfl) ?m ?_; (case m => (intro x _; go_simp; try with_reducible rfl))
  simp only [Act.put, List.setIfInBounds_toArray, List.set_cons_zero, List.set_cons_succ]
  refine calm_value (v := ?v19) (by kernel_rfl) ?m ?_; (case m => (intro x _; go_simp; try with_reducible rfl))
  simp only [Act.put, List.setIfInBounds_toArray, List.set_cons_zero, List.set_cons_succ]
  refine calm_nil fun x hx => ?_
  have hbx : Below B w x := HBA.out.trans (hx.mono (by omega))
  go_wp2
  go_ret
  exact ⟨rfl, by rw [HB.out]; exact hbx⟩

theorem dctTurns_own : ownKnob Tryd.prog.godebug = none := by kernel_rfl
theorem dctTurns_laid : laidOutB Tryd.prog = true := by kernel_rfl
theorem dctTurns_reads : Tryd.f5.params.toList.all (fun t => Tryd.prog.readableRec t && decide (t < Tryd.prog.types.size)) = true := by kernel_rfl

set_option maxRecDepth 100000 in
theorem dctTurns_lifted (os : Os) (started : os.Started) (H : Type) (enc : TypeId × Value → H) :
    ReturnsInHanded {} Tryd.checked os 5 .any (fun w args => (Rows.dctTurnsSpec.pre enc Tryd.prog Tryd.f5 Rows.dctTurnsRow.domain false w args ∧ laidMetH Tryd.prog Rows.dctTurnsRow.laid w) ∧ sizedMet enc Tryd.prog Tryd.f5 (OpenSpec.ofChange Rows.dctTurnsSpec) false w args)
      (Rows.dctTurnsSpec.post enc Tryd.prog Tryd.f5 false true false false) := by
  refine returnsInHanded_of_change_and (C := Tryd.checked) (X := fun w _ => laidMetH Tryd.prog Rows.dctTurnsRow.laid w) (fun _ _ _ hh h => h.of_heap hh) dctTurns_own started (by kernel_rfl) Tryd.func5
    (ChangeSpec.witness_shaped (enc := enc) (C := Tryd.checked) (os := os) (X := fun w _ => laidMetH Tryd.prog Rows.dctTurnsRow.laid w) false (World.laidAll Tryd.prog os Rows.dctTurnsRow.laid) #[.agg (arrA fun _ => 0)] 8 (World.laidAll_os _ _ _)
      (World.shaped_of_ZipB (by kernel_rfl) (by kernel_rfl)) (by kernel_rfl) (by kernel_rfl) (by kernel_rfl)
      (by rw [MakeChecks.laidMetH_plain _ _ _ (by kernel_rfl)]; exact laidMet_laidAll _ (by kernel_rfl) (by kernel_rfl))) ?_
  intro W base args ds gs before hval0 hW _ hsz0 hL _
  have hval : ∀ (j : Nat) t v, Tryd.f5.params[j]? = some t → args[j]? = some v → Value.okWide Tryd.prog W .any base t v := hval0
  have hW' := hW
  obtain ⟨p, q, hA0, hV, rfl, hfz, hnd⟩ := hW
  have hA : DataW.TrodAll enc Tryd.prog W 0 (fun _ => true) true Tryd.f5.params.toList args.toList ds p := hA0
  rw [Tryd.params5] at hA hval
  obtain ⟨v0, vs0, d0, ds0, p0, q0, hargs, rfl, rfl, h0, r0⟩ := trodAll_cons hA
  obtain ⟨rfl, rfl, rfl⟩ := trodAll_nil r0
  obtain rfl : args = #[v0] := by cases args; simp_all
  obtain ⟨rfl, rfl⟩ := trodVars_none hV
  obtain ⟨f0, rfl, w0⟩ := open_arr Tryd.underlying22 Tryd.underlying3 (by kernel_rfl) (by kernel_rfl) (hval 0 22 v0 rfl rfl) h0
  clear hA0 hval0
  refine (dctTurns_walk f0 W w0 (dct_laid hL ⟨by simp [Rows.dctTurnsRow], by kernel_rfl⟩)).mono fun e W' ⟨he, hb⟩ => ?_
  subst he
  exact ⟨_, rfl, law_end dctTurns_laid dctTurns_reads rfl Tryd.underlying4 rfl hW' rfl hb⟩

theorem dctTurns_over : Rows.dctTurnsRow.holds Tryd.pinned (OpenSpec.ofChange Rows.dctTurnsSpec) :=
  OpenClaim.holds_of_wide 5 Tryd.f5 rfl rfl rfl rfl rfl rfl rfl ⟨rfl, rfl, rfl, rfl, rfl⟩ rfl rfl rfl rfl rfl (by kernel_rfl) Tryd.func5 (by kernel_rfl)
    (of_decide_eq_true (by kernel_rfl)) (by unfold Func.isWrapper; first | (rw [if_pos (by decide +kernel)]; kernel_rfl) | (rw [if_neg (by decide +kernel)]; exact ⟨rfl, rfl⟩))
    (fun os started H enc _ => dctTurns_lifted os started H enc)

theorem dctTurns_holds : Rows.DctTurnsCardSaid :=
  Claim7.holds_tied_plain_at .later [] [.data] true Rows.dctTurnsCard.stood.harness false dctTurns_over (fun _ h => by cases h) (by kernel_rfl) (fun _ h => by cases h) dctTurns_row_tie rfl ⟨rfl, rfl⟩ (by kernel_rfl) rfl
    (fun f fn hf hfn => by
      obtain rfl : f = 5 := Option.some.inj ((show Tryd.prog.funcNamed "overspill/overspilllaw14.DctTurns" = some 5 by kernel_rfl).symm.trans hf) |>.symm
      obtain rfl : fn = Tryd.f5 := (Option.some.inj (Tryd.func5.symm.trans hfn)).symm
      exact ⟨by kernel_rfl, fun j t ht => by
        rw [Tryd.params5] at ht
        have hm : t ∈ [22] := by simpa using Array.mem_of_getElem? ht
        have hall : ([22].all fun u => !Tryd.prog.wantsStandIn u) = true := by kernel_rfl
        exact (show Tryd.prog.wantsStandIn t = false by simpa using List.all_eq_true.1 hall t hm)⟩)
    (by kernel_rfl)
#print axioms dctTurns_holds
end Go.Proofs.YtegppidfmjcnoaaDoor
