/- The levels of any block of values, by any quantiser, are what the document's own answer says; and the chapter's examples come out. No condition. -/
import Derived.Test.YtgldkllmabkckaaRows
import Derived.Test.YtgldkllmabkckaaLblk
import Derived.Test.YtgldkllmabkckaaCalm
import Derived.Test.YtgldkllmabkckaaLaws
import Derived.ProofKit
namespace Go.Proofs.Ytgldkllmabkckaa
open Go.ChangeShapes Go.WideShapes Go.ChangeAt Go.RowKit

set_option maxRecDepth 100000 in
set_option maxHeartbeats 2000000 in
theorem coarseBlocks_walk (f : Nat → Int) (q : Int) (intra : Bool) (_ : ∀ i, i < 64 → (Lit.int .i64 (f i)).wf = true) (_ : (Lit.int .i64 q).wf = true) (w : World) : Calls Try.prog 4 #[.agg (arrA f), .int .i64 q, .bool intra] w fun e w' => e = .returned (.bool true) ∧ Below w.heap.size w w' := by
  obtain ⟨B, hB⟩ : ∃ B, w.heap.size = B := ⟨_, rfl⟩
  obtain ⟨wA, hwA⟩ : ∃ wA, w.alloc (.cells (arrA f) 27 (0, 0)) = wA := ⟨_, rfl⟩
  have hzA : wA.heap.size = B + 1 := by rw [← hwA, ← hB]; simp
  have hA0 : wA.heap[B]? = some (.cells (arrA f) 27 (0, 0)) := by rw [← hwA, ← hB]; exact heap_alloc_new w _
  have hbA : Below B w wA := by rw [← hwA, ← hB]; exact (Below.refl _ w).alloc (Nat.le_refl _) _
  have HX := Lib.hid (fun (x : World) (hx : Below (B + 1) wA x) => ((hx.block B (by omega)).trans hA0 : x.heap[B]? = some (.cells (arrA f) 27 (0, 0))))
  have K : ∀ (x y : World), Below (B + 1) wA x → Below x.heap.size x y → Below (B + 1) wA y := fun x y hx hy => hx.trans (hy.mono (by have := hx.size; omega))
  have C1 := Lib.hid (fun (x : World) (hx : Below (B + 1) wA x) => (((by cases intra with | false => exact lblk_false f q x | true => exact lblk_true f q x : Calls Try.prog 12 #[.agg (arrA f), .int .i64 q, .bool intra] x (BlkGives (levG f q intra) x))).mono fun e y h => ⟨h.1, K x y hx h.2⟩ : Calls Try.prog 12 #[.agg (arrA f), .int .i64 q, .bool intra] x fun e y => e = .returned (.agg (arrA (levG f q intra))) ∧ Below (B + 1) wA y))
  have C2 := Lib.hid (fun (x : World) (hx : Below (B + 1) wA x) => ((lblk_page f q intra x).mono fun e y h => ⟨h.1, K x y hx h.2⟩ : Calls Try.prog 13 #[.agg (arrA f), .int .i64 q, .bool intra] x fun e y => e = .returned (.agg (arrA (levG f q intra))) ∧ Below (B + 1) wA y))
  have C3 := Lib.hid (fun (x : World) (hx : Below (B + 1) wA x) => ((lives13 x).mono fun e y h => ⟨h.1, h.2 ▸ hx⟩ : Calls Try.prog 11 #[] x fun e y => e = .returned (.bool true) ∧ Below (B + 1) wA y))
  have q1 : ∀ w, (Op.equalIn 10000 27 (.agg (arrA (levG f q intra))) (.agg (arrA (levG f q intra)))).run Try.prog w = .ok true w := fun w => (arr_equal _ _ w).trans (by rw [arrEq_iff.2 fun _ _ => rfl])
  have HSX : (Try.prog.info? 27).map (·.size) = some (arrA f).size := arr_sized _
  have HWA := Lib.hid hwA
  have HB := Lib.hid hB
  have HBA := Lib.hid hbA
  generalize arrA (levG f q intra) = Z at C1 C2 q1
  generalize arrA f = X at *
  clear hwA hB hbA hA0 K hzA
  go_enter Try.func4, Try.ntmps4
  go_wp2
  rw [HWA.out, HB.out]
  refine wp_region_calm (S := fun x => Below (B + 1) wA x) 13 (by kernel_rfl) (by kernel_rfl) (Below.refl _ _).drew ?_
  simp only [List.take_succ_cons, List.take_zero, List.drop_succ_cons, List.drop_zero]
  refine calm_load 27 _ B 27 X (0, 0) _ (by kernel_rfl) rfl rfl (fun x hx => HX.out x hx) Try.underlying27 rfl HSX ?_
  simp only [Act.put, List.setIfInBounds_toArray, List.set_cons_zero, List.set_cons_succ]
  refine calm_value (v := ?v1) (by kernel_rfl) ?m ?_; (case m => (intro x _; go_simp; try with_reducible rfl))
  simp only [Act.put, List.setIfInBounds_toArray, List.set_cons_zero, List.set_cons_succ]
  refine calm_value (v := ?v2) (by kernel_rfl) ?m ?_; (case m => (intro x _; go_simp; try with_reducible rfl))
  simp only [Act.put, List.setIfInBounds_toArray, List.set_cons_zero, List.set_cons_succ]
  refine calm_call (by kernel_rfl) C1.out (fun _ => by kernel_rfl) ?_
  simp only [Act.put, List.setIfInBounds_toArray, List.set_cons_zero, List.set_cons_succ]
  refine calm_load 27 _ B 27 X (0, 0) _ (by kernel_rfl) rfl rfl (fun x hx => HX.out x hx) Try.underlying27 rfl HSX ?_
  simp only [Act.put, List.setIfInBounds_toArray, List.set_cons_zero, List.set_cons_succ]
  refine calm_value (v := ?v5) (by kernel_rfl) ?m ?_; (case m => (intro x _; go_simp; try with_reducible rfl))
  simp only [Act.put, List.setIfInBounds_toArray, List.set_cons_zero, List.set_cons_succ]
  refine calm_value (v := ?v6) (by kernel_rfl) ?m ?_; (case m => (intro x _; go_simp; try with_reducible rfl))
  simp only [Act.put, List.setIfInBounds_toArray, List.set_cons_zero, List.set_cons_succ]
  refine calm_call (by kernel_rfl) C2.out (fun _ => by kernel_rfl) ?_
  simp only [Act.put, List.setIfInBounds_toArray, List.set_cons_zero, List.set_cons_succ]
  refine calm_value (v := ?v8) (by kernel_rfl) ?m ?_; (case m => (intro x _; go_simp; try with_reducible rfl))
  simp only [Act.put, List.setIfInBounds_toArray, List.set_cons_zero, List.set_cons_succ]
  refine calm_value (v := ?v9) (by kernel_rfl) ?m ?_; (case m => (intro x _; go_simp; try with_reducible rfl))
  simp only [Act.put, List.setIfInBounds_toArray, List.set_cons_zero, List.set_cons_succ]
  refine calm_call (by kernel_rfl) C3.out (fun _ => by kernel_rfl) ?_
  simp only [Act.put, List.setIfInBounds_toArray, List.set_cons_zero, List.set_cons_succ]
  refine calm_value (v := ?v11) (by kernel_rfl) ?m ?_; (case m => (intro x _; go_simp; try with_reducible rfl))
  simp only [Act.put, List.setIfInBounds_toArray, List.set_cons_zero, List.set_cons_succ]
  refine calm_value (v := ?v12) (by kernel_rfl) ?m ?_; (case m => (intro x _; go_simp; try with_reducible rfl))
  simp only [Act.put, List.setIfInBounds_toArray, List.set_cons_zero, List.set_cons_succ]
  refine calm_nil fun x hx => ?_
  have hbx : Below B w x := HBA.out.trans (hx.mono (by omega))
  go_wp2
  go_ret
  exact ⟨rfl, by rw [HB.out]; exact hbx⟩

theorem coarseBlocks_own : ownKnob Try.prog.godebug = none := by kernel_rfl
theorem coarseBlocks_laid : laidOutB Try.prog = true := by kernel_rfl
theorem coarseBlocks_reads : Try.f4.params.toList.all (fun t => Try.prog.readableRec t && decide (t < Try.prog.types.size)) = true := by kernel_rfl

set_option maxRecDepth 100000 in
theorem coarseBlocks_lifted (os : Os) (started : os.Started) (H : Type) (enc : TypeId × Value → H) :
    ReturnsInHanded {} Try.checked os 4 .any (Rows.coarseBlocksSpec.pre6 enc Try.prog Try.f4 Rows.coarseBlocksRow.domain false) (Rows.coarseBlocksSpec.post enc Try.prog Try.f4 false true false false) := by
  refine returnsInHanded_of_change (C := Try.checked) coarseBlocks_own started (by kernel_rfl) Try.func4
    (ChangeSpec.witness6 (enc := enc) (C := Try.checked) false ⟨#[], #[.agg (arrA fun _ => 0), .int .i64 0, .bool false], []⟩ 8 (by kernel_rfl) (by kernel_rfl) (by kernel_rfl) (by kernel_rfl)) ?_
  intro W base args ds gs before hval0 hW hcnd _
  have hval : ∀ (j : Nat) t v, Try.f4.params[j]? = some t → args[j]? = some v → Value.okWide Try.prog W .any base t v := hval0
  have hW' := hW
  obtain ⟨p, q, hA0, hV, rfl, hfz, hnd⟩ := hW
  have hA : DataW.TrodAll enc Try.prog W 0 (fun _ => true) true Try.f4.params.toList args.toList ds p := hA0
  rw [Try.params4] at hA hval
  obtain ⟨v0, vs0, d0, ds0, p0, q0, hargs, rfl, rfl, h0, r0⟩ := trodAll_cons hA
  obtain ⟨v1, vs1, d1, ds1, p1, q1, rfl, rfl, rfl, h1, r1⟩ := trodAll_cons r0
  obtain ⟨v2, vs2, d2, ds2, p2, q2, rfl, rfl, rfl, h2, r2⟩ := trodAll_cons r1
  obtain ⟨rfl, rfl, rfl⟩ := trodAll_nil r2
  obtain rfl : args = #[v0, v1, v2] := by cases args; simp_all
  obtain ⟨rfl, rfl⟩ := trodVars_none hV
  obtain ⟨f0, rfl, w0⟩ := open_arr Try.underlying27 Try.underlying3 (by kernel_rfl) (by kernel_rfl) (hval 0 27 v0 rfl rfl) h0
  obtain ⟨a1, rfl, rfl, rfl, w1⟩ := open_int Try.underlying3 (hval 1 3 v1 rfl rfl) h1
  obtain ⟨a2, rfl, rfl, rfl⟩ := open_bool Try.underlying4 (hval 2 4 v2 rfl rfl) h2
  clear hA0 hval0
  refine (coarseBlocks_walk f0 a1 a2 w0 w1 W).mono fun e W' ⟨he, hb⟩ => ?_
  subst he
  exact ⟨_, rfl, law_end coarseBlocks_laid coarseBlocks_reads rfl Try.underlying4 rfl hW' rfl hb⟩

theorem coarseBlocks_over : Rows.coarseBlocksRow.holds Try.pinned (OpenSpec.ofChange Rows.coarseBlocksSpec) :=
  OpenClaim.holds_of_wide 4 Try.f4 rfl rfl rfl rfl rfl rfl rfl ⟨rfl, rfl, rfl, rfl, rfl⟩ rfl rfl rfl rfl rfl (by kernel_rfl) Try.func4 (by kernel_rfl)
    (of_decide_eq_true (by kernel_rfl)) (by unfold Func.isWrapper; first | (rw [if_pos (by decide +kernel)]; kernel_rfl) | (rw [if_neg (by decide +kernel)]; exact ⟨rfl, rfl⟩))
    (fun os started H enc _ => coarseBlocks_lifted os started H enc)

theorem coarseBlocks_holds : Rows.CoarseBlocksSaid :=
  coarseBlocks_over
#print axioms coarseBlocks_holds
end Go.Proofs.Ytgldkllmabkckaa
