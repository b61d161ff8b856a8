/- The values of any block, by any quantiser, are what the document's own answer says; and the chapter's examples come out. No condition. -/
import Derived.Test.YtifdbmkmicaneaaRows
import Derived.Test.YtifdbmkmicaneaaBlk
import Derived.Test.YtifdbmkmicaneaaCalm
import Derived.Test.YtifdbmkmicaneaaLaws
import Derived.ProofKit
namespace Go.Proofs.Ytifdbmkmicaneaa
open Go.ChangeShapes Go.WideShapes Go.ChangeAt Go.RowKit

set_option maxRecDepth 100000 in
set_option maxHeartbeats 2000000 in
theorem scaleBlocks_walk (f : Nat → Int) (a b : Int) (intra : Bool) (_ : ∀ i, i < 64 → (Lit.int .i64 (f i)).wf = true) (_ : (Lit.int .i64 a).wf = true) (_ : (Lit.int .i64 b).wf = true) (w : World) : Calls Try.prog 4 #[.agg (arrA f), .agg #[.int .i64 a, .int .i64 b], .bool intra] w fun e w' => e = .returned (.bool true) ∧ Below w.heap.size w w' := by
  obtain ⟨B, hB⟩ : ∃ B, w.heap.size = B := ⟨_, rfl⟩
  obtain ⟨w0, hw0⟩ : ∃ w0, w.alloc (.cells (arrA f) 26 (0, 0)) = w0 := ⟨_, rfl⟩
  obtain ⟨wA, hwA⟩ : ∃ wA, w0.alloc (.cells #[.int .i64 a, .int .i64 b] 27 (0, 0)) = wA := ⟨_, rfl⟩
  have hz0 : w0.heap.size = B + 1 := by rw [← hw0, ← hB]; simp
  have hzA : wA.heap.size = B + 2 := by rw [← hwA]; simp; omega
  have h00 : w0.heap[B]? = some (.cells (arrA f) 26 (0, 0)) := by rw [← hw0, ← hB]; exact heap_alloc_new w _
  have hA0 : wA.heap[B]? = some (.cells (arrA f) 26 (0, 0)) := by rw [← hwA]; exact heap_keep h00
  have hA1 : wA.heap[B + 1]? = some (.cells #[.int .i64 a, .int .i64 b] 27 (0, 0)) := by rw [← hwA, ← hz0]; exact heap_alloc_new w0 _
  have hbA : Below B w wA := by rw [← hwA, ← hw0, ← hB]; exact ((Below.refl _ w).alloc (Nat.le_refl _) _).alloc (by simp) _
  have HX := Lib.hid (fun (x : World) (hx : Below (B + 2) wA x) => ((hx.block B (by omega)).trans hA0 : x.heap[B]? = some (.cells (arrA f) 26 (0, 0))))
  have HT := Lib.hid (fun (x : World) (hx : Below (B + 2) wA x) => (⟨cell_of_row x (B + 1) 0 _ _ _ ((hx.block (B + 1) (by omega)).trans hA1), cell_of_row x (B + 1) 1 _ _ _ ((hx.block (B + 1) (by omega)).trans hA1)⟩ : x.cell? ⟨B + 1, 0, none⟩ = some (.int .i64 a) ∧ x.cell? ⟨B + 1, 1, none⟩ = some (.int .i64 b)))
  have K : ∀ (x y : World), Below (B + 2) wA x → Below x.heap.size x y → Below (B + 2) wA y := fun x y hx hy => hx.trans (hy.mono (by have := hx.size; omega))
  have C1 := Lib.hid (fun (x : World) (hx : Below (B + 2) wA x) => ((blk_code f a intra b x).mono fun e y h => ⟨h.1, K x y hx h.2⟩ : Calls Try.prog 11 #[.agg (arrA f), .int .i64 a, .bool intra, .int .i64 b] x fun e y => e = .returned (.agg (arrA (valF f a intra b))) ∧ Below (B + 2) wA y))
  have C2 := Lib.hid (fun (x : World) (hx : Below (B + 2) wA x) => ((blk_page f a intra b x).mono fun e y h => ⟨h.1, K x y hx h.2⟩ : Calls Try.prog 12 #[.agg (arrA f), .int .i64 a, .bool intra, .int .i64 b] x fun e y => e = .returned (.agg (arrA (valF f a intra b))) ∧ Below (B + 2) wA y))
  have C3 := Lib.hid (fun (x : World) (hx : Below (B + 2) wA x) => ((lives12 x).mono fun e y h => ⟨h.1, h.2 ▸ hx⟩ : Calls Try.prog 10 #[] x fun e y => e = .returned (.bool true) ∧ Below (B + 2) wA y))
  have q1 : ∀ w, (Op.equalIn 10000 26 (.agg (arrA (valF f a intra b))) (.agg (arrA (valF f a intra b)))).run Try.prog w = .ok true w := fun w => (arr_equal _ _ w).trans (by rw [arrEq_iff.2 fun _ _ => rfl])
  have HSX : (Try.prog.info? 26).map (·.size) = some (arrA f).size := arr_sized _
  have HWA := Lib.hid hwA
  have HW0 := Lib.hid hw0
  have HB := Lib.hid hB
  have HBA := Lib.hid hbA
  generalize arrA (valF f a intra b) = Z at C1 C2 q1
  generalize arrA f = X at *
  clear hwA hB hbA hA0 hA1 K hzA hz0 h00 hw0
  go_enter Try.func4, Try.ntmps4
  go_wp2
  rw [HW0.out, HB.out, HWA.out]
  refine wp_region_calm (S := fun x => Below (B + 2) wA x) 19 (by kernel_rfl) (by kernel_rfl) (Below.refl _ _).drew ?_
  simp only [List.take_succ_cons, List.take_zero, List.drop_succ_cons, List.drop_zero]
  refine calm_load 26 _ B 26 X (0, 0) _ (by kernel_rfl) rfl rfl (fun x hx => HX.out x hx) Try.underlying26 rfl HSX ?_
  simp only [Act.put, List.setIfInBounds_toArray, List.set_cons_zero, List.set_cons_succ]
  refine calm_value (v := ?v1) (by kernel_rfl) ?m ?_; (case m => (intro x _; go_simp; try with_reducible rfl))
  simp only [Act.put, List.setIfInBounds_toArray, List.set_cons_zero, List.set_cons_succ]
  refine calm_cell 3 _ ⟨B + 1, 0, none⟩ (.int .i64 a) (by kernel_rfl) rfl rfl (fun x hx => by have c0 := (HT.out x hx).1; go_simp) ?_
  simp only [Act.put, List.setIfInBounds_toArray, List.set_cons_zero, List.set_cons_succ]
  refine calm_value (v := ?v2) (by kernel_rfl) ?m ?_; (case m => (intro x _; go_simp; try with_reducible rfl))
  simp only [Act.put, List.setIfInBounds_toArray, List.set_cons_zero, List.set_cons_succ]
  refine calm_value (v := ?v3) (by kernel_rfl) ?m ?_; (case m => (intro x _; go_simp; try with_reducible rfl))
  simp only [Act.put, List.setIfInBounds_toArray, List.set_cons_zero, List.set_cons_succ]
  refine calm_cell 3 _ ⟨B + 1, 1, none⟩ (.int .i64 b) (by kernel_rfl) rfl rfl (fun x hx => by have c0 := (HT.out x hx).2; go_simp) ?_
  simp only [Act.put, List.setIfInBounds_toArray, List.set_cons_zero, List.set_cons_succ]
  refine calm_call (by kernel_rfl) C1.out (fun _ => by kernel_rfl) ?_
  simp only [Act.put, List.setIfInBounds_toArray, List.set_cons_zero, List.set_cons_succ]
  refine calm_load 26 _ B 26 X (0, 0) _ (by kernel_rfl) rfl rfl (fun x hx => HX.out x hx) Try.underlying26 rfl HSX ?_
  simp only [Act.put, List.setIfInBounds_toArray, List.set_cons_zero, List.set_cons_succ]
  refine calm_value (v := ?v4) (by kernel_rfl) ?m ?_; (case m => (intro x _; go_simp; try with_reducible rfl))
  simp only [Act.put, List.setIfInBounds_toArray, List.set_cons_zero, List.set_cons_succ]
  refine calm_cell 3 _ ⟨B + 1, 0, none⟩ (.int .i64 a) (by kernel_rfl) rfl rfl (fun x hx => by have c0 := (HT.out x hx).1; go_simp) ?_
  simp only [Act.put, List.setIfInBounds_toArray, List.set_cons_zero, List.set_cons_succ]
  refine calm_value (v := ?v5) (by kernel_rfl) ?m ?_; (case m => (intro x _; go_simp; try with_reducible rfl))
  simp only [Act.put, List.setIfInBounds_toArray, List.set_cons_zero, List.set_cons_succ]
  refine calm_value (v := ?v6) (by kernel_rfl) ?m ?_; (case m => (intro x _; go_simp; try with_reducible rfl))
  simp only [Act.put, List.setIfInBounds_toArray, List.set_cons_zero, List.set_cons_succ]
  refine calm_cell 3 _ ⟨B + 1, 1, none⟩ (.int .i64 b) (by kernel_rfl) rfl rfl (fun x hx => by have c0 := (HT.out x hx).2; go_simp) ?_
  simp only [Act.put, List.setIfInBounds_toArray, List.set_cons_zero, List.set_cons_succ]
  refine calm_call (by kernel_rfl) C2.out (fun _ => by kernel_rfl) ?_
  simp only [Act.put, List.setIfInBounds_toArray, List.set_cons_zero, List.set_cons_succ]
  refine calm_value (v := ?v7) (by kernel_rfl) ?m ?_; (case m => (intro x _; go_simp; try with_reducible rfl))
  simp only [Act.put, List.setIfInBounds_toArray, List.set_cons_zero, List.set_cons_succ]
  refine calm_value (v := ?v8) (by kernel_rfl) ?m ?_; (case m => (intro x _; go_simp; try with_reducible rfl))
  simp only [Act.put, List.setIfInBounds_toArray, List.set_cons_zero, List.set_cons_succ]
  refine calm_call (by kernel_rfl) C3.out (fun _ => by kernel_rfl) ?_
  simp only [Act.put, List.setIfInBounds_toArray, List.set_cons_zero, List.set_cons_succ]
  refine calm_value (v := ?v9) (by kernel_rfl) ?m ?_; (case m => (intro x _; go_simp; try with_reducible rfl))
  simp only [Act.put, List.setIfInBounds_toArray, List.set_cons_zero, List.set_cons_succ]
  refine calm_value (v := ?v10) (by kernel_rfl) ?m ?_; (case m => (intro x _; go_simp; try with_reducible rfl))
  simp only [Act.put, List.setIfInBounds_toArray, List.set_cons_zero, List.set_cons_succ]
  refine calm_nil fun x hx => ?_
  have hbx : Below B w x := HBA.out.trans (hx.mono (by omega))
  go_wp2
  go_ret
  exact ⟨rfl, by rw [HB.out]; exact hbx⟩

theorem scaleBlocks_own : ownKnob Try.prog.godebug = none := by kernel_rfl
theorem scaleBlocks_laid : laidOutB Try.prog = true := by kernel_rfl
theorem scaleBlocks_reads : Try.f4.params.toList.all (fun t => Try.prog.readableRec t && decide (t < Try.prog.types.size)) = true := by kernel_rfl

set_option maxRecDepth 100000 in
theorem scaleBlocks_lifted (os : Os) (started : os.Started) (H : Type) (enc : TypeId × Value → H) :
    ReturnsInHanded {} Try.checked os 4 .any (Rows.scaleBlocksSpec.pre6 enc Try.prog Try.f4 Rows.scaleBlocksRow.domain false) (Rows.scaleBlocksSpec.post enc Try.prog Try.f4 false true false false) := by
  refine returnsInHanded_of_change (C := Try.checked) scaleBlocks_own started (by kernel_rfl) Try.func4
    (ChangeSpec.witness6 (enc := enc) (C := Try.checked) false ⟨#[], #[.agg (arrA fun _ => 0), .agg #[.int .i64 0, .int .i64 0], .bool false], []⟩ 8 (by kernel_rfl) (by kernel_rfl) (by kernel_rfl) (by kernel_rfl)) ?_
  intro W base args ds gs before hval0 hW hcnd _
  have hval : ∀ (j : Nat) t v, Try.f4.params[j]? = some t → args[j]? = some v → Value.okWide Try.prog W .any base t v := hval0
  have hW' := hW
  obtain ⟨p, q, hA0, hV, rfl, hfz, hnd⟩ := hW
  have hA : DataW.TrodAll enc Try.prog W 0 (fun _ => true) true Try.f4.params.toList args.toList ds p := hA0
  rw [Try.params4] at hA hval
  obtain ⟨v0, vs0, d0, ds0, p0, q0, hargs, rfl, rfl, h0, r0⟩ := trodAll_cons hA
  obtain ⟨v1, vs1, d1, ds1, p1, q1, rfl, rfl, rfl, h1, r1⟩ := trodAll_cons r0
  obtain ⟨v2, vs2, d2, ds2, p2, q2, rfl, rfl, rfl, h2, r2⟩ := trodAll_cons r1
  obtain ⟨rfl, rfl, rfl⟩ := trodAll_nil r2
  obtain rfl : args = #[v0, v1, v2] := by cases args; simp_all
  obtain ⟨rfl, rfl⟩ := trodVars_none hV
  obtain ⟨f0, rfl, w0⟩ := open_arr Try.underlying26 Try.underlying3 (by kernel_rfl) (by kernel_rfl) (hval 0 26 v0 rfl rfl) h0
  obtain ⟨a1, b1, rfl, w1, x1⟩ := open_two Try.underlying27 Try.underlying3 (by kernel_rfl) (by kernel_rfl) (hval 1 27 v1 rfl rfl) h1
  obtain ⟨a2, rfl, rfl, rfl⟩ := open_bool Try.underlying4 (hval 2 4 v2 rfl rfl) h2
  clear hA0 hval0
  refine (scaleBlocks_walk f0 a1 b1 a2 w0 w1 x1 W).mono fun e W' ⟨he, hb⟩ => ?_
  subst he
  exact ⟨_, rfl, law_end scaleBlocks_laid scaleBlocks_reads rfl Try.underlying4 rfl hW' rfl hb⟩

theorem scaleBlocks_over : Rows.scaleBlocksRow.holds Try.pinned (OpenSpec.ofChange Rows.scaleBlocksSpec) :=
  OpenClaim.holds_of_wide 4 Try.f4 rfl rfl rfl rfl rfl rfl rfl ⟨rfl, rfl, rfl, rfl, rfl⟩ rfl rfl rfl rfl rfl (by kernel_rfl) Try.func4 (by kernel_rfl)
    (of_decide_eq_true (by kernel_rfl)) (by unfold Func.isWrapper; first | (rw [if_pos (by decide +kernel)]; kernel_rfl) | (rw [if_neg (by decide +kernel)]; exact ⟨rfl, rfl⟩))
    (fun os started H enc _ => scaleBlocks_lifted os started H enc)

theorem scaleBlocks_holds : Rows.ScaleBlocksSaid :=
  scaleBlocks_over
#print axioms scaleBlocks_holds
end Go.Proofs.Ytifdbmkmicaneaa
