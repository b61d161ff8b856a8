/- A vector's number among colours, and whether a cell may be predicted by it, is what the document says. No condition. -/
import Derived.Test.YtnpmllbdpmkliaaRows
import Derived.Test.YtnpmllbdpmkliaaVmay
import Derived.Test.YtnpmllbdpmkliaaLaws
import Derived.ProofKit
namespace Go.Proofs.Ytnpmllbdpmkliaa
open Go.ChangeShapes Go.WideShapes Go.ChangeAt Go.RowKit

set_option maxRecDepth 100000 in
set_option maxHeartbeats 4000000 in
theorem motionMay_walk (k n a b : Int) (_ : (Lit.int .i64 k).wf = true) (_ : (Lit.int .i64 n).wf = true) (_ : (Lit.int .i64 a).wf = true) (_ : (Lit.int .i64 b).wf = true) (w : World) :
    Calls Try.prog 3 #[.int .i64 k, .int .i64 n, .agg #[.int .i64 a, .int .i64 b]] w fun e w' => e = .returned (.bool true) ∧ Below w.heap.size w w' := by
  obtain ⟨B, hB⟩ : ∃ B, w.heap.size = B := ⟨_, rfl⟩
  obtain ⟨wA, hwA⟩ : ∃ wA, w.alloc (.cells (twoA a b) 22 (0, 0)) = wA := ⟨_, rfl⟩
  have hA : wA.heap[B]? = some (.cells (twoA a b) 22 (0, 0)) := by rw [← hwA, ← hB]; exact heap_alloc_new w _
  have hz : wA.heap.size = B + 1 := by rw [← hwA, ← hB]; simp
  have K : ∀ (x y : World), Below (B + 1) wA x → Below x.heap.size x y → Below (B + 1) wA y := fun x y hx hy => hx.trans (hy.mono (by have := hx.size; omega))
  have HC := Lib.hid (fun (x : World) (hx : Below (B + 1) wA x) => two_at ((hx.block B (by omega)).trans hA))
  have HX := Lib.hid (fun (x : World) (hx : Below (B + 1) wA x) => (hx.block B (by omega)).trans hA)
  have hb : Below w.heap.size w wA := by rw [← hwA]; exact (Below.refl _ w).alloc (Nat.le_refl _) _
  have HE := Lib.hid (fun (x : World) (hx : Below (B + 1) wA x) => (hb.trans (hx.mono (by omega)) : Below w.heap.size w x))
  have C1 := Lib.hid (fun (x : World) (hx : Below (B + 1) wA x) => ((chroma_code a x).mono fun e y h => ⟨h.1, h.2 ▸ hx⟩ : Calls Try.prog 6 #[.int .i64 a] x fun e y => e = .returned (.int .i64 (chrV a)) ∧ Below (B + 1) wA y))
  have C2 := Lib.hid (fun (x : World) (hx : Below (B + 1) wA x) => ((chrp_page a x).mono fun e y h => ⟨h.1, h.2 ▸ hx⟩ : Calls Try.prog 7 #[.int .i64 a] x fun e y => e = .returned (.int .i64 (chrV a)) ∧ Below (B + 1) wA y))
  have C3 := Lib.hid (fun (x : World) (hx : Below (B + 1) wA x) => ((may_code k n a b x).mono fun e y h => ⟨h.1, K x y hx h.2⟩ : Calls Try.prog 8 #[.int .i64 k, .int .i64 n, .agg (twoA a b)] x fun e y => e = .returned (.bool (mayV k n a b)) ∧ Below (B + 1) wA y))
  have C4 := Lib.hid (fun (x : World) (hx : Below (B + 1) wA x) => ((may_page k n a b x).mono fun e y h => ⟨h.1, K x y hx h.2⟩ : Calls Try.prog 9 #[.int .i64 k, .int .i64 n, .agg (twoA a b)] x fun e y => e = .returned (.bool (mayV k n a b)) ∧ Below (B + 1) wA y))
  have C5 := Lib.hid (fun (x : World) (hx : Below (B + 1) wA x) => ((lives18 x).mono fun e y h => ⟨h.1, K x y hx h.2⟩ : Calls Try.prog 10 #[] x fun e y => e = .returned (.bool true) ∧ Below (B + 1) wA y))
  have HS : (Try.prog.info? 22).map (·.size) = some (twoA a b).size := two_sized a b
  have hS0 : Below (B + 1) wA wA := Below.refl _ _
  have HWA := Lib.hid (show w.alloc (.cells #[.int .i64 a, .int .i64 b] 22 (0, 0)) = wA from hwA)
  have HB := Lib.hid hB
  show Calls Try.prog 3 #[.int .i64 k, .int .i64 n, .agg (twoA a b)] w fun e w' => e = .returned (.bool true) ∧ Below w.heap.size w w'
  have HWB := Lib.hid hwA
  generalize chrV a = c at *
  generalize mayV k n a b = y at *
  obtain ⟨X, hX⟩ : ∃ X, twoA a b = X := ⟨_, rfl⟩
  rw [hX] at HX C3 C4 HS HWB ⊢
  clear hA hz hb hwA hB K hX
  go_enter Try.func3, Try.ntmps3
  go_wp2
  rw [HWB.out, HB.out]
  refine wp_region_calm (S := fun x => Below (B + 1) wA x) 22 (by kernel_rfl) (by kernel_rfl) hS0.drew ?_
  simp only [List.take_succ_cons, List.take_zero, List.drop_succ_cons, List.drop_zero]
  refine calm_value (v := ?v0) (by kernel_rfl) ?m ?_; (case m => (intro x _; go_simp; try with_reducible rfl))
  simp only [Act.put, List.setIfInBounds_toArray, List.set_cons_zero, List.set_cons_succ]
  refine calm_cell 3 _ ⟨B, 0, none⟩ (.int .i64 a) (by kernel_rfl) rfl rfl (fun x hx => by have c0 := (HC.out x hx).1; go_simp) ?_
  simp only [Act.put, List.setIfInBounds_toArray, List.set_cons_zero, List.set_cons_succ]
  refine calm_call (by kernel_rfl) C1.out (fun _ => by kernel_rfl) ?_
  simp only [Act.put, List.setIfInBounds_toArray, List.set_cons_zero, List.set_cons_succ]
  refine calm_value (v := ?v3) (by kernel_rfl) ?m ?_; (case m => (intro x _; go_simp; try with_reducible rfl))
  simp only [Act.put, List.setIfInBounds_toArray, List.set_cons_zero, List.set_cons_succ]
  refine calm_cell 3 _ ⟨B, 0, none⟩ (.int .i64 a) (by kernel_rfl) rfl rfl (fun x hx => by have c0 := (HC.out x hx).1; go_simp) ?_
  simp only [Act.put, List.setIfInBounds_toArray, List.set_cons_zero, List.set_cons_succ]
  refine calm_call (by kernel_rfl) C2.out (fun _ => by kernel_rfl) ?_
  simp only [Act.put, List.setIfInBounds_toArray, List.set_cons_zero, List.set_cons_succ]
  refine calm_value (v := ?v6) (by kernel_rfl) ?m ?_; (case m => (intro x _; go_simp; try with_reducible rfl))
  simp only [Act.put, List.setIfInBounds_toArray, List.set_cons_zero, List.set_cons_succ]
  refine calm_value (v := ?v7) (by kernel_rfl) ?m ?_; (case m => (intro x _; go_simp; try with_reducible rfl))
  simp only [Act.put, List.setIfInBounds_toArray, List.set_cons_zero, List.set_cons_succ]
  refine calm_value (v := ?v8) (by kernel_rfl) ?m ?_; (case m => (intro x _; go_simp; try with_reducible rfl))
  simp only [Act.put, List.setIfInBounds_toArray, List.set_cons_zero, List.set_cons_succ]
  refine calm_value (v := ?v9) (by kernel_rfl) ?m ?_; (case m => (intro x _; go_simp; try with_reducible rfl))
  simp only [Act.put, List.setIfInBounds_toArray, List.set_cons_zero, List.set_cons_succ]
  refine calm_load 22 _ B 22 X (0, 0) _ (by kernel_rfl) rfl rfl (fun x hx => HX.out x hx) Try.underlying22 rfl HS ?_
  simp only [Act.put, List.setIfInBounds_toArray, List.set_cons_zero, List.set_cons_succ]
  refine calm_call (by kernel_rfl) C3.out (fun _ => by kernel_rfl) ?_
  simp only [Act.put, List.setIfInBounds_toArray, List.set_cons_zero, List.set_cons_succ]
  refine calm_value (v := ?v12) (by kernel_rfl) ?m ?_; (case m => (intro x _; go_simp; try with_reducible rfl))
  simp only [Act.put, List.setIfInBounds_toArray, List.set_cons_zero, List.set_cons_succ]
  refine calm_value (v := ?v13) (by kernel_rfl) ?m ?_; (case m => (intro x _; go_simp; try with_reducible rfl))
  simp only [Act.put, List.setIfInBounds_toArray, List.set_cons_zero, List.set_cons_succ]
  refine calm_load 22 _ B 22 X (0, 0) _ (by kernel_rfl) rfl rfl (fun x hx => HX.out x hx) Try.underlying22 rfl HS ?_
  simp only [Act.put, List.setIfInBounds_toArray, List.set_cons_zero, List.set_cons_succ]
  refine calm_call (by kernel_rfl) C4.out (fun _ => by kernel_rfl) ?_
  simp only [Act.put, List.setIfInBounds_toArray, List.set_cons_zero, List.set_cons_succ]
  refine calm_value (v := ?v16) (by kernel_rfl) ?m ?_; (case m => (intro x _; go_simp; try with_reducible rfl))
  simp only [Act.put, List.setIfInBounds_toArray, List.set_cons_zero, List.set_cons_succ]
  refine calm_value (v := ?v17) (by kernel_rfl) ?m ?_; (case m => (intro x _; go_simp; try with_reducible rfl))
  simp only [Act.put, List.setIfInBounds_toArray, List.set_cons_zero, List.set_cons_succ]
  refine calm_value (v := ?v18) (by kernel_rfl) ?m ?_; (case m => (intro x _; go_simp; try with_reducible rfl))
  simp only [Act.put, List.setIfInBounds_toArray, List.set_cons_zero, List.set_cons_succ]
  refine calm_call (by kernel_rfl) C5.out (fun _ => by kernel_rfl) ?_
  simp only [Act.put, List.setIfInBounds_toArray, List.set_cons_zero, List.set_cons_succ]
  refine calm_value (v := ?v20) (by kernel_rfl) ?m ?_; (case m => (intro x _; go_simp; try with_reducible rfl))
  simp only [Act.put, List.setIfInBounds_toArray, List.set_cons_zero, List.set_cons_succ]
  refine calm_value (v := ?v21) (by kernel_rfl) ?m ?_; (case m => (intro x _; go_simp; try with_reducible rfl))
  simp only [Act.put, List.setIfInBounds_toArray, List.set_cons_zero, List.set_cons_succ]
  refine calm_nil fun x hx => ?_
  go_wp2
  go_ret
  exact ⟨rfl, HE.out _ hx⟩
theorem motionMay_own : ownKnob Try.prog.godebug = none := by kernel_rfl
theorem motionMay_laid : laidOutB Try.prog = true := by kernel_rfl
theorem motionMay_reads : Try.f3.params.toList.all (fun t => Try.prog.readableRec t && decide (t < Try.prog.types.size)) = true := by kernel_rfl

set_option maxRecDepth 100000 in
theorem motionMay_lifted (os : Os) (started : os.Started) (H : Type) (enc : TypeId × Value → H) :
    ReturnsInHanded {} Try.checked os 3 .any (Rows.motionMaySpec.pre6 enc Try.prog Try.f3 Rows.motionMayRow.domain false) (Rows.motionMaySpec.post enc Try.prog Try.f3 false true false false) := by
  refine returnsInHanded_of_change (C := Try.checked) motionMay_own started (by kernel_rfl) Try.func3
    (ChangeSpec.witness6 (enc := enc) (C := Try.checked) false ⟨#[], #[.int .i64 0, .int .i64 0, .agg #[.int .i64 0, .int .i64 0]], []⟩ 8 (by kernel_rfl) (by kernel_rfl) (by kernel_rfl) (by kernel_rfl)) ?_
  intro W base args ds gs before hval0 hW hcnd _
  have hval : ∀ (j : Nat) t v, Try.f3.params[j]? = some t → args[j]? = some v → Value.okWide Try.prog W .any base t v := hval0
  have hW' := hW
  obtain ⟨p, q, hA0, hV, rfl, hfz, hnd⟩ := hW
  have hA : DataW.TrodAll enc Try.prog W 0 (fun _ => true) true Try.f3.params.toList args.toList ds p := hA0
  rw [Try.params3] at hA hval
  obtain ⟨v0, vs0, d0, ds0, p0, q0, hargs, rfl, rfl, h0, r0⟩ := trodAll_cons hA
  obtain ⟨v1, vs1, d1, ds1, p1, q1, rfl, rfl, rfl, h1, r1⟩ := trodAll_cons r0
  obtain ⟨v2, vs2, d2, ds2, p2, q2, rfl, rfl, rfl, h2, r2⟩ := trodAll_cons r1
  obtain ⟨rfl, rfl, rfl⟩ := trodAll_nil r2
  obtain rfl : args = #[v0, v1, v2] := by cases args; simp_all
  obtain ⟨rfl, rfl⟩ := trodVars_none hV
  obtain ⟨a0, rfl, rfl, rfl, w0⟩ := open_int Try.underlying3 (hval 0 3 v0 rfl rfl) h0
  obtain ⟨a1, rfl, rfl, rfl, w1⟩ := open_int Try.underlying3 (hval 1 3 v1 rfl rfl) h1
  obtain ⟨a2, b2, rfl, w2, x2⟩ := open_two Try.underlying22 Try.underlying3 (by kernel_rfl) (by kernel_rfl) (hval 2 22 v2 rfl rfl) h2
  clear hA0 hval0
  refine (motionMay_walk a0 a1 a2 b2 w0 w1 w2 x2 W).mono fun e W' ⟨he, hb⟩ => ?_
  subst he
  exact ⟨_, rfl, law_end motionMay_laid motionMay_reads rfl Try.underlying4 rfl hW' rfl hb⟩

theorem motionMay_over : Rows.motionMayRow.holds Try.pinned (OpenSpec.ofChange Rows.motionMaySpec) :=
  OpenClaim.holds_of_wide 3 Try.f3 rfl rfl rfl rfl rfl rfl rfl ⟨rfl, rfl, rfl, rfl, rfl⟩ rfl rfl rfl rfl rfl (by kernel_rfl) Try.func3 (by kernel_rfl)
    (of_decide_eq_true (by kernel_rfl)) (by unfold Func.isWrapper; first | (rw [if_pos (by decide +kernel)]; kernel_rfl) | (rw [if_neg (by decide +kernel)]; exact ⟨rfl, rfl⟩))
    (fun os started H enc _ => motionMay_lifted os started H enc)

theorem motionMay_holds : Rows.MotionMaySaid :=
  motionMay_over
#print axioms motionMay_holds
end Go.Proofs.Ytnpmllbdpmkliaa
