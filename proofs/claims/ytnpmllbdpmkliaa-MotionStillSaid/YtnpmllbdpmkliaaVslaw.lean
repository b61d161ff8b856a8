/- The walk of MotionStill. No condition. -/
import Derived.Test.YtnpmllbdpmkliaaPclaw
import Derived.Test.YtnpmllbdpmkliaaPnew
import Derived.Test.YtnpmllbdpmkliaaVpred
import Derived.Test.YtnpmllbdpmkliaaVpredn
import Derived.Test.YtnpmllbdpmkliaaVstil
import Derived.Test.YtnpmllbdpmkliaaVmay
import Derived.Test.YtnpmllbdpmkliaaLaws
import Derived.ProofKit
namespace Go.Proofs.Ytnpmllbdpmkliaa
open Go.ChangeShapes Go.WideShapes Go.ChangeAt Go.RowKit

section
variable {H : Type} {enc : TypeId × Value → H} {P : Program}
/-- An array of three int that comes in by value. -/
theorem open_three {w : World} {r : Reach} {b0 base : Nat} {sp : Nat → Bool} {held : Bool} {t e : TypeId} {v : Value} {d : DataW H} {ps : List MemPlace} {k : IntKind}
    (ht : P.underlying t = some (.array 3 e)) (he : P.underlying e = some (.int k)) (hc : P.cellsOf t = 3) (hce : P.cellsOf e = 1)
    (hval : Value.okWide P w r b0 t v) (hd : DataW.Trod enc P w base sp held t v d ps) :
    ∃ x y z : Int, v = .agg #[.int k x, .int k y, .int k z] ∧ (Lit.int k x).wf = true ∧ (Lit.int k y).wf = true ∧ (Lit.int k z).wf = true := by
  obtain ⟨cs, rfl, hsz, _⟩ : ∃ cs, v = .agg cs ∧ cs.size = P.cellsOf t ∧ Row.okWide P w r b0 t cs := by
    simpa [Value.okWide, ht] using hval
  rw [hc] at hsz
  obtain ⟨fuel, hf⟩ := hd
  obtain ⟨xs, m, _, _, _, hl, hel⟩ := DataW.trod_array ht hf
  rw [hce] at hel
  match xs, hl with
  | [y0, y1, y2], _ =>
    obtain ⟨x0, e0, _, w0⟩ := DataW.trod_int he (show DataW.trod _ P w base sp held m e _ = some y0 from hel 0 (by omega))
    obtain ⟨x1, e1, _, w1⟩ := DataW.trod_int he (show DataW.trod _ P w base sp held m e _ = some y1 from hel 1 (by omega))
    obtain ⟨x2, e2, _, w2⟩ := DataW.trod_int he (show DataW.trod _ P w base sp held m e _ = some y2 from hel 2 (by omega))
    obtain ⟨l⟩ := cs
    match l, hsz with
    | [c0, c1, c2], _ =>
      simp [Value.cells] at e0 e1 e2
      subst e0 e1 e2
      exact ⟨x0, x1, x2, rfl, w0, w1, w2⟩
end
def threeA (a b s : Int) : Array Value := #[.int .i64 a, .int .i64 b, .int .i64 s]
theorem three_at {w : World} {B : Nat} {a b s : Int} (h : w.heap[B]? = some (.cells (threeA a b s) 39 (0, 0))) : w.cell? ⟨B, 0, none⟩ = some (.int .i64 a) ∧ w.cell? ⟨B, 1, none⟩ = some (.int .i64 b) ∧ w.cell? ⟨B, 2, none⟩ = some (.int .i64 s) :=
  ⟨part_cells (cs := [.int .i64 a, .int .i64 b, .int .i64 s]) h rfl, part_cells (cs := [.int .i64 a, .int .i64 b, .int .i64 s]) h rfl, part_cells (cs := [.int .i64 a, .int .i64 b, .int .i64 s]) h rfl⟩

set_option maxRecDepth 1000000 in
set_option maxHeartbeats 8000000 in
theorem motionStill_walk (k : Int) (v : Nat → Value) (n : Nat → Nat) (f : Nat → Nat → Int) (m a b s : Int) (w : World) (_ : (Lit.int .i64 k).wf = true) (h : FrAt w v n f) (_ : ∀ p, p < 3 → n p ≤ maxLen) (_ : (Lit.int .i64 m).wf = true) (_ : (Lit.int .i64 a).wf = true) (_ : (Lit.int .i64 b).wf = true) (_ : (Lit.int .i64 s).wf = true) :
    Calls Try.prog 5 #[.agg (frA k v), .int .i64 m, .agg #[.int .i64 a, .int .i64 b, .int .i64 s]] w fun e w' => e = .returned (.bool true) ∧ Below w.heap.size w w' := by
  show Calls Try.prog 5 #[.agg (frA k v), .int .i64 m, .agg (threeA a b s)] w fun e w' => e = .returned (.bool true) ∧ Below w.heap.size w w'
  obtain ⟨B, wA, wB, hB, hwA, hwB, hzA, hzB, hC0, hC1, hbC⟩ := laid2 w (.cells (frA k v) 29 (0, 0)) (.cells (threeA a b s) 39 (0, 0))
  have hw : ∀ x, Below (B + 2) wB x → Below w.heap.size w x := fun x hx => by rw [hB]; exact hbC.trans (hx.mono (by omega))
  have K : ∀ (x y : World), Below (B + 2) wB x → Below x.heap.size x y → Below (B + 2) wB y := fun x y hx hy => hx.trans (hy.mono (by have := hx.size; omega))
  have HX0 := Lib.hid (fun (x : World) (hx : Below (B + 2) wB x) => ((hx.block B (by omega)).trans hC0 : x.heap[B]? = some (.cells (frA k v) 29 (0, 0))))
  have HX1 := Lib.hid (fun (x : World) (hx : Below (B + 2) wB x) => three_at ((hx.block (B + 1) (by omega)).trans hC1))
  have HK := Lib.hid (fun (x : World) (hx : Below (B + 2) wB x) => fr_cell0 (T := 29) (v := v) ((hx.block B (by omega)).trans hC0))
  have HKP := Lib.hid (fun (x : World) (hx : Below (B + 2) wB x) p (hp : p < 3) => fr_cell (T := 29) (v := v) ((hx.block B (by omega)).trans hC0) hp)
  have HF := Lib.hid (fun (x : World) (hx : Below (B + 2) wB x) => h.below (hw x hx))
  have L1 := Lib.hid (fun (x : World) (hx : Below (B + 2) wB x) => ((light_code k v n x h.slices).mono fun e y h => ⟨h.1, K x y hx h.2⟩ : Calls Try.prog 11 #[.agg (frA k v)] x fun e y => e = .returned (.bool (lightF n)) ∧ Below (B + 2) wB y))
  have CR := Lib.hid (fun (x : World) (hx : Below (B + 2) wB x) => ((frright_code k v n x h.slices).mono fun e y h => ⟨h.1, K x y hx h.2⟩ : Calls Try.prog 16 #[.agg (frA k v)] x fun e y => e = .returned (.bool (rightF k n)) ∧ Below (B + 2) wB y))
  have CL := Lib.hid (fun (x : World) (hx : Below (B + 2) wB x) => ((lives18 x).mono fun e y h => ⟨h.1, K x y hx h.2⟩ : Calls Try.prog 10 #[] x fun e y => e = .returned (.bool true) ∧ Below (B + 2) wB y))
  have hS0 : Below (B + 2) wB wB := Below.refl _ _
  have HSX := fr_sized fr_size k v
  have HW := Lib.hid hw
  have KK := Lib.hid K
  have HWA := Lib.hid hwA
  have HWB := Lib.hid hwB
  have HB := Lib.hid hB
  have h00 := HX0.out wB hS0
  have hPz := pt_zero
  have hSL := h.slices
  cases hl : (lightF n && rightF k n) with
  | false =>
    obtain ⟨X, hX⟩ : ∃ X, frA k v = X := ⟨_, rfl⟩
    rw [hX] at HX0 L1 CR HSX HWA h00 ⊢
    generalize threeA a b s = Z at *
    have HL := Lib.hid hl
    clear hw K hwA hwB hB h hbC hC0 hC1 hzA hzB hl
    cases hl1 : lightF n with
    | false =>
      rw [hl1] at L1
      go_enter Try.func5, Try.ntmps5
      go_wp2_with (rw [HWA.out, HB.out, HWB.out]; with_reducible refine wpList_load_row rfl 29 _ rfl B rfl 29 X (0, 0) _ h00 Try.underlying29 rfl HSX ?_)
      refine (L1.out _ hS0).mono ?_
      rintro e x ⟨rfl, hx⟩
      go_wp2_with fail
      refine (CL.out _ hx).mono ?_
      rintro e x2 ⟨rfl, hx2⟩
      go_wp2
      go_ret
      exact ⟨rfl, HW.out _ hx2⟩
    | true =>
      have hr : rightF k n = false := by have := HL.out; rw [hl1] at this; exact this
      rw [hl1] at L1
      rw [hr] at CR
      go_enter Try.func5, Try.ntmps5
      go_wp2_with (rw [HWA.out, HB.out, HWB.out]; with_reducible refine wpList_load_row rfl 29 _ rfl B rfl 29 X (0, 0) _ h00 Try.underlying29 rfl HSX ?_)
      refine (L1.out _ hS0).mono ?_
      rintro e x ⟨rfl, hx⟩
      have h01 := HX0.out x hx
      go_wp2_with (first | (with_reducible refine wpList_load_row rfl 29 _ rfl B rfl 29 X (0, 0) _ h01 Try.underlying29 rfl HSX ?_) | (with_reducible refine wpList_wanted_load (by kernel_rfl) 29 _ rfl B rfl 29 X (0, 0) _ h01 Try.underlying29 rfl HSX ?_))
      refine (CR.out _ hx).mono ?_
      rintro e x1 ⟨rfl, hx1⟩
      go_wp2_with fail
      refine (CL.out _ hx1).mono ?_
      rintro e x2 ⟨rfl, hx2⟩
      go_wp2
      go_ret
      exact ⟨rfl, HW.out _ hx2⟩
  | true =>
  have hl1 : lightF n = true := (Bool.and_eq_true _ _ ▸ hl).1
  have hr : rightF k n = true := (Bool.and_eq_true _ _ ▸ hl).2
  rw [hl1] at L1
  rw [hr] at CR
  obtain ⟨X, hX⟩ : ∃ X, frA k v = X := ⟨_, rfl⟩
  rw [hX] at HX0 L1 CR HSX HWA h00 ⊢
  generalize threeA a b s = Z at *
  have HSZ := Lib.hid (fun (x : World) (hx : Below (B + 2) wB x) => (by have := hx.size; omega : B + 2 ≤ x.heap.size))
  obtain ⟨g1, e1, hC1', hC2', hC3'⟩ : ∃ (g1 : Nat → Int) (e1 : Int), (∀ (x : World), Below (B + 2) wB x → Calls Try.prog 17 #[.agg X, .int .i64 m] x fun e y => e = .returned (.tuple #[.agg (arn 384 g1), .int .i64 e1]) ∧ Below x.heap.size x y) ∧
      (∀ (x : World), Below (B + 2) wB x → Calls Try.prog 12 #[.agg X, .int .i64 m, .agg (twoA 0 0)] x fun e y => e = .returned (.tuple #[.agg (arn 384 g1), .int .i64 e1]) ∧ Below x.heap.size x y) ∧
      (mayV k m a b = false → ∃ e3 : Int, (e3 != 0) = true ∧ ∀ (x : World), Below (B + 2) wB x → Calls Try.prog 12 #[.agg X, .int .i64 m, .agg (twoA a b)] x fun e y => e = .returned (.tuple #[.agg (arn 384 fun _ => 0), .int .i64 e3]) ∧ Below x.heap.size x y) := by
    rw [← hX]
    have h3 : mayV k m a b = false → ∃ e3 : Int, (e3 != 0) = true ∧ ∀ (x : World), Below (B + 2) wB x → Calls Try.prog 12 #[.agg (frA k v), .int .i64 m, .agg (twoA a b)] x fun e y => e = .returned (.tuple #[.agg (arn 384 fun _ => 0), .int .i64 e3]) ∧ Below x.heap.size x y := fun hy => ⟨_, by split <;> rfl, fun x _ => (pred_none k v n m a b x hSL (by rw [hy, Bool.and_false])).mono fun e y h => h⟩
    cases hc : hasC k m with
    | false =>
      have hm0 : mayV k m 0 0 = false := by unfold mayV; rw [hc]; rfl
      refine ⟨fun _ => 0, 1, fun x _ => (cut_none k v n m x hSL (by rw [hc, Bool.and_false])).mono fun e y h => h, fun x _ => (pred_none k v n m 0 0 x hSL (by rw [hm0, Bool.and_false])).mono fun e y h => ⟨?_, h.2⟩, h3⟩
      have := h.1
      rw [hc, Bool.and_false] at this
      exact this
    | true =>
      obtain ⟨q0, q1⟩ := hasC_iff.1 hc
      obtain ⟨q, rfl⟩ : ∃ q : Nat, m = (q : Int) := ⟨m.toNat, by omega⟩
      rw [Int.toNat_natCast] at q1
      refine ⟨cutF k q f, 0, fun x hx => (cut_code k v n f q x (h.below (hw x hx)) hr q1).mono fun e y h => h, fun x hx => (pred_code k v n f q 0 0 x (h.below (hw x hx)) hr q1 (may_zero q1)).mono fun e y h => ⟨?_, h.2⟩, h3⟩
      rw [← arn_congr (fun i _ => still_cut k q f i)]
      exact h.1
  have C1 := Lib.hid hC1'
  have C2 := Lib.hid hC2'
  have C3 := Lib.hid hC3'
  have HNE : (e1 != e1) = false := by simp
  have HY1 := pt_equal g1
  have HS1 := pt_sized g1
  have HO1 := arn_one 384 g1
  have HZ1 : (arn 384 g1).size = 384 := arn_size _ _
  have HY0 := pt_equal fun _ => 0
  have HS0 := pt_sized fun _ => 0
  have HO0 := arn_one 384 fun _ => 0
  have HZ0 : (arn 384 fun _ => 0).size = 384 := arn_size _ _
  obtain ⟨Y, hY⟩ : ∃ Y, (arn 384 fun _ => 0) = Y := ⟨_, rfl⟩
  obtain ⟨V1, hV1⟩ : ∃ V1, arn 384 g1 = V1 := ⟨_, rfl⟩
  rw [hY] at hPz HY0 HS0 HO0 HZ0 C3
  rw [hV1] at C1 C2 HY1 HS1 HO1 HZ1
  have HYV : Y.size = V1.size := by rw [HZ0, HZ1]
  have HYY := Lib.hid hY
  have HH := Lib.hid h
  have HR := Lib.hid hr
  have HSL := Lib.hid hSL
  have HXX := Lib.hid hX
  unfold twoA at C2
  clear hw K hwA hwB hB hbC hC0 hC1 hzA hzB hl hC1' hC2' hC3' hY hV1 h hr hSL hX hl1
  go_enter Try.func5, Try.ntmps5
  go_wp2_with (rw [HWA.out, HB.out, HWB.out]; with_reducible refine wpList_load_row rfl 29 _ rfl B rfl 29 X (0, 0) _ h00 Try.underlying29 rfl HSX ?_)
  refine (L1.out _ hS0).mono ?_
  rintro e x ⟨rfl, hx⟩
  have h01 := HX0.out x hx
  go_wp2_with (first | (with_reducible refine wpList_load_row rfl 29 _ rfl B rfl 29 X (0, 0) _ h01 Try.underlying29 rfl HSX ?_) | (with_reducible refine wpList_wanted_load (by kernel_rfl) 29 _ rfl B rfl 29 X (0, 0) _ h01 Try.underlying29 rfl HSX ?_))
  refine (CR.out _ hx).mono ?_
  rintro e x1 ⟨rfl, hx1⟩
  clear hx h01 h00
  go_wp2
  refine wp_region_held_drew (S := (fun x => Below (B + 2) wB x)) (by kernel_rfl) hx1.drew (fun hH => ?_)
  refine held_take 0 (some 34) (v := ?_) rfl rfl (by kernel_rfl) (by kernel_rfl) (by kernel_rfl) (fun _ _ _ h => h) hH (Or.inl ⟨by kernel_rfl, ?_⟩) ?_
  rotate_left
  · (intro x _; go_simp; try with_reducible rfl)
  rotate_right
  try simp only [Act.put, List.setIfInBounds_toArray, List.set_cons_zero, List.set_cons_succ]
  refine held_take 1 (some 35) (v := .int .i64 a) rfl rfl (by kernel_rfl) (by kernel_rfl) (by kernel_rfl) (fun _ _ _ h => h) hH (Or.inl ⟨by kernel_rfl, ?_⟩) ?_
  · (intro x hx; have c0 := (HX1.out x hx).1; go_simp)
  try simp only [Act.put, List.setIfInBounds_toArray, List.set_cons_zero, List.set_cons_succ]
  refine held_take 2 (some 36) (v := ?_) rfl rfl (by kernel_rfl) (by kernel_rfl) (by kernel_rfl) (fun _ _ _ h => h) hH (Or.inl ⟨by kernel_rfl, ?_⟩) ?_
  rotate_left
  · (intro x _; go_simp; try with_reducible rfl)
  rotate_right
  try simp only [Act.put, List.setIfInBounds_toArray, List.set_cons_zero, List.set_cons_succ]
  refine held_take 3 (some 37) (v := .int .i64 b) rfl rfl (by kernel_rfl) (by kernel_rfl) (by kernel_rfl) (fun _ _ _ h => h) hH (Or.inl ⟨by kernel_rfl, ?_⟩) ?_
  · (intro x hx; have c0 := (HX1.out x hx).2.1; go_simp)
  try simp only [Act.put, List.setIfInBounds_toArray, List.set_cons_zero, List.set_cons_succ]
  refine held_take 4 (some 38) (v := .agg #[.int .i64 a, .int .i64 b]) rfl rfl (by kernel_rfl) (by kernel_rfl) (by kernel_rfl) (fun _ _ _ h => h) hH (Or.inl ⟨by kernel_rfl, ?_⟩) ?_
  · (intro x _; go_simp; try with_reducible rfl)
  try simp only [Act.put, List.setIfInBounds_toArray, List.set_cons_zero, List.set_cons_succ]
  refine held_take 5 (some 39) (v := ?_) rfl rfl (by kernel_rfl) (by kernel_rfl) (by kernel_rfl) (fun _ _ _ h => h) hH (Or.inl ⟨by kernel_rfl, ?_⟩) ?_
  rotate_left
  · (intro x _; go_simp; try with_reducible rfl)
  rotate_right
  try simp only [Act.put, List.setIfInBounds_toArray, List.set_cons_zero, List.set_cons_succ]
  refine held_take 6 (some 40) (v := .int .i64 s) rfl rfl (by kernel_rfl) (by kernel_rfl) (by kernel_rfl) (fun _ _ _ h => h) hH (Or.inl ⟨by kernel_rfl, ?_⟩) ?_
  · (intro x hx; have c0 := (HX1.out x hx).2.2; go_simp)
  try simp only [Act.put, List.setIfInBounds_toArray, List.set_cons_zero, List.set_cons_succ]
  refine wpAnyH_ready (rs := [7]) (by kernel_rfl) (by simp) ?_
  refine AllReadyH.cons rfl (fun K hK => ?_) AllReadyH.nil
  go_simp
  have hz1 := HSZ.out _ hx1
  have hk1 : Below (B + 2) wB (x1.alloc (.cells #[.int .i64 0, .int .i64 0] 22 (0, 0))).drew := (hx1.alloc (by omega) _).drew
  refine hK.out _ _ hk1 (fun hH2 => ?_)
  clear hK K hH hH2
  have hH := hk1
  refine wpAnyH_ready (rs := [8]) (by kernel_rfl) (by simp) ?_
  refine AllReadyH.cons rfl (fun K hK => ?_) AllReadyH.nil
  refine (if_pos (by kernel_rfl)).mpr ?_
  refine wp_store_row 22 _ _ rfl x1.heap.size #[.int .i64 a, .int .i64 b] rfl rfl 22 #[.int .i64 0, .int .i64 0] (heap_alloc_new x1 _) (two_sized a b) rfl (two_one a b) ?_
  obtain ⟨w5, hw5⟩ : ∃ w5, ((x1.alloc (.cells #[.int .i64 0, .int .i64 0] 22 (0, 0))).drew).setRow x1.heap.size #[.int .i64 a, .int .i64 b] = w5 := ⟨_, rfl⟩
  have h5 : w5.heap[x1.heap.size]? = some (.cells (twoA a b) 22 (0, 0)) := by rw [← hw5]; exact setRow_heap _ _ _ _ _ _ (heap_alloc_new x1 _)
  have hg5 : (x1.alloc (.cells #[.int .i64 0, .int .i64 0] 22 (0, 0))).drew.grownBy w5 (some x1.heap.size) := by rw [← hw5]; exact ⟨rfl, rfl, rfl, by simp, fun k _ hk => setRow_other _ _ _ _ (by intro e; exact hk (by rw [e]))⟩
  have hk5 : Below (B + 2) wB w5 := hk1.grown hg5 (by have := HSZ.out _ hk1; omega) (fun k hk => by injection hk with hk; omega)
  have hz5 : x1.heap.size < w5.heap.size := Nat.lt_of_lt_of_le (by simp) hg5.size
  rw [hw5]
  refine hK.out _ _ hk5 (fun hH2 => ?_)
  clear hK K hH hH2 hw5 hg5 hk1 hx1
  have hH := hk5
  refine held_take 9 (some 8) (v := ?_) rfl rfl (by kernel_rfl) (by kernel_rfl) (by kernel_rfl) (fun _ _ _ h => h) hH (Or.inl ⟨by kernel_rfl, ?_⟩) ?_
  rotate_left
  · (intro x _; go_simp; try with_reducible rfl)
  rotate_right
  try simp only [Act.put]
  refine wpAnyH_done (by kernel_rfl) ?_ _
  clear hH
  generalize x1.heap.size = R at *
  have h51 := HX0.out w5 hk5
  go_wp2_with (with_reducible refine wpList_load_row rfl 29 _ rfl B rfl 29 X (0, 0) _ h51 Try.underlying29 rfl HSX ?_)
  refine (C1.out _ hk5).mono ?_
  rintro e y1 ⟨rfl, hy1⟩
  obtain ⟨w6, hw6⟩ : ∃ w6, y1.alloc (.cells V1 33 (0, 0)) = w6 := ⟨_, rfl⟩
  have hb6 : Below y1.heap.size y1 w6 := by rw [← hw6]; exact (Below.refl _ y1).alloc (Nat.le_refl _) _
  have h6 : w6.heap[y1.heap.size]? = some (.cells V1 33 (0, 0)) := by rw [← hw6]; exact heap_alloc_new y1 _
  have hz6 : w6.heap.size = y1.heap.size + 1 := by rw [← hw6]; simp
  have hk6 : Below (B + 2) wB w6 := KK.out _ _ (KK.out _ _ hk5 hy1) hb6
  have hR1 : R < y1.heap.size := Nat.lt_of_lt_of_le hz5 hy1.size
  have h5' : w6.heap[R]? = some (.cells (twoA a b) 22 (0, 0)) := (hb6.block R hR1).trans ((hy1.block R hz5).trans h5)
  have h61 := HX0.out w6 hk6
  have HW6 := Lib.hid hw6
  clear hw6 hb6 hy1 h5 h51 hk5 hz5 hz1
  go_wp2_with (first | (with_reducible refine wp_store_fresh rfl 33 _ _ rfl V1 Y 33 rfl rfl HS1 HYV HO1 ?_; rw [HW6.out]) | (with_reducible refine wpList_load_row rfl 29 _ rfl B rfl 29 X (0, 0) _ h61 Try.underlying29 rfl HSX ?_))
  refine (C2.out _ hk6).mono ?_
  rintro e y2 ⟨rfl, hy2⟩
  generalize y1.heap.size = Ra at *
  obtain ⟨w7, hw7⟩ : ∃ w7, y2.alloc (.cells V1 33 (0, 0)) = w7 := ⟨_, rfl⟩
  have hb7 : Below y2.heap.size y2 w7 := by rw [← hw7]; exact (Below.refl _ y2).alloc (Nat.le_refl _) _
  have h7 : w7.heap[y2.heap.size]? = some (.cells V1 33 (0, 0)) := by rw [← hw7]; exact heap_alloc_new y2 _
  have hz7 : w7.heap.size = y2.heap.size + 1 := by rw [← hw7]; simp
  have hk7 : Below (B + 2) wB w7 := KK.out _ _ (KK.out _ _ hk6 hy2) hb7
  have hz2 := hy2.size
  have h56 : w7.heap[R]? = some (.cells (twoA a b) 22 (0, 0)) := (hb7.block R (by omega)).trans ((hy2.block R (by omega)).trans h5')
  have h67 : w7.heap[Ra]? = some (.cells V1 33 (0, 0)) := (hb7.block Ra (by omega)).trans ((hy2.block Ra (by omega)).trans h6)
  have h71 := HX0.out w7 hk7
  have HW7 := Lib.hid hw7
  clear hw7 hb7 hy2 h5' h6 h61 hk6
  have HST := two_sized a b
  cases hy : mayV k m a b with
  | false =>
    obtain ⟨e3, hne, C4⟩ := C3.out hy
    have C5 := Lib.hid C4
    generalize twoA a b = T at *
    clear hy C4 C3
    go_wp2_with (first | (with_reducible refine wp_store_fresh rfl 33 _ _ rfl V1 Y 33 rfl rfl HS1 HYV HO1 ?_; rw [HW7.out]) | (with_reducible refine wpList_load_row rfl 33 _ rfl Ra rfl 33 V1 (0, 0) _ h67 Try.underlying33 rfl HS1 ?_) | (with_reducible refine wpList_load_row rfl 33 _ rfl y2.heap.size rfl 33 V1 (0, 0) _ h7 Try.underlying33 rfl HS1 ?_) | (with_reducible refine wpList_load_row rfl 29 _ rfl B rfl 29 X (0, 0) _ h71 Try.underlying29 rfl HSX ?_) | (with_reducible refine wpList_load_row rfl 22 _ rfl R rfl 22 T (0, 0) _ h56 Try.underlying22 rfl HST ?_))
    refine (C5.out _ hk7).mono ?_
    rintro e y3 ⟨rfl, hy3⟩
    obtain ⟨w8, hw8⟩ : ∃ w8, y3.alloc (.cells Y 33 (0, 0)) = w8 := ⟨_, rfl⟩
    have hb8 : Below y3.heap.size y3 w8 := by rw [← hw8]; exact (Below.refl _ y3).alloc (Nat.le_refl _) _
    have h8 : w8.heap[y3.heap.size]? = some (.cells Y 33 (0, 0)) := by rw [← hw8]; exact heap_alloc_new y3 _
    have hk8 : Below (B + 2) wB w8 := KK.out _ _ (KK.out _ _ hk7 hy3) hb8
    have HW8 := Lib.hid hw8
    have HYY2 : Y.size = Y.size := rfl
    clear hw8 hb8 hy3 h71 hk7 h7 h67 h56
    go_wp2_with (first | (with_reducible refine wp_store_fresh rfl 33 _ _ rfl Y Y 33 rfl rfl HS0 rfl HO0 ?_; rw [HW8.out]) | (with_reducible refine wpList_load_row rfl 33 _ rfl y3.heap.size rfl 33 Y (0, 0) _ h8 Try.underlying33 rfl HS0 ?_))
    refine (CL.out _ hk8).mono ?_
    rintro e y9 ⟨rfl, hy9⟩
    go_wp2
    go_ret
    exact ⟨rfl, HW.out _ hy9⟩
  | true =>
    obtain ⟨hc1, -, -⟩ := mayV_iff.1 hy
    obtain ⟨q, rfl⟩ : ∃ q : Nat, m = (q : Int) := ⟨m.toNat, by omega⟩
    have hq : q < cells k := by simpa using hc1.2
    have hk : isFmt k = true := (rightF_iff.1 HR.out).1
    have hnp : ∀ p, p < 3 → 0 < siz k p := fun p _ => siz_some hk p
    obtain ⟨V3, hV3⟩ : ∃ V3, arn 384 (predF k q f a b) = V3 := ⟨_, rfl⟩
    have C4 := Lib.hid (fun (x : World) (hx : Below (B + 2) wB x) => pred_code k v n f q a b x (HF.out x hx) HR.out hq hy)
    have C5 := Lib.hid (fun (x : World) => new_code k s x hk)
    have C6 := Lib.hid (fun (x : World) v2 (h2 : FrAt x v2 (siz k) fun _ _ => clip s 0 255) => pred_code k v2 (siz k) (fun _ _ => clip s 0 255) q a b x h2 (rightF_iff.2 ⟨hk, fun _ _ => rfl⟩) hq hy)
    obtain ⟨V4, hV4⟩ : ∃ V4, arn 384 (predF k q (fun _ _ => clip s 0 255) a b) = V4 := ⟨_, rfl⟩
    have HS3 := pt_sized (predF k q f a b)
    have HO3 := arn_one 384 (predF k q f a b)
    have HZ3 : (arn 384 (predF k q f a b)).size = 384 := arn_size _ _
    have HS4 := pt_sized (predF k q (fun _ _ => clip s 0 255) a b)
    have HO4 := arn_one 384 (predF k q (fun _ _ => clip s 0 255) a b)
    have HZ4 : (arn 384 (predF k q (fun _ _ => clip s 0 255) a b)).size = 384 := arn_size _ _
    rw [HXX.out, hV3] at C4
    rw [hV3] at HS3 HO3 HZ3
    rw [hV4] at C6 HS4 HO4 HZ4
    have HY3 : Y.size = V3.size := by rw [HZ0, HZ3]
    have HY4 : Y.size = V4.size := by rw [HZ0, HZ4]
    have HV3 := Lib.hid hV3
    have HV4 := Lib.hid hV4
    have HYM := Lib.hid hy
    have HQ := Lib.hid hq
    have HNP := Lib.hid hnp
    obtain ⟨T, hT⟩ : ∃ T, twoA a b = T := ⟨_, rfl⟩
    rw [hT] at C4 C6 HST h56
    clear hV3 hV4 hy hc1 hq hk hnp hT C3
    go_wp2_with (first | (with_reducible refine wp_store_fresh rfl 33 _ _ rfl V1 Y 33 rfl rfl HS1 HYV HO1 ?_; rw [HW7.out]) | (with_reducible refine wpList_load_row rfl 33 _ rfl Ra rfl 33 V1 (0, 0) _ h67 Try.underlying33 rfl HS1 ?_) | (with_reducible refine wpList_load_row rfl 33 _ rfl y2.heap.size rfl 33 V1 (0, 0) _ h7 Try.underlying33 rfl HS1 ?_) | (with_reducible refine wpList_load_row rfl 29 _ rfl B rfl 29 X (0, 0) _ h71 Try.underlying29 rfl HSX ?_) | (with_reducible refine wpList_load_row rfl 22 _ rfl R rfl 22 T (0, 0) _ h56 Try.underlying22 rfl HST ?_))
    refine (C4.out _ hk7).mono ?_
    rintro e y3 ⟨rfl, hy3⟩
    obtain ⟨w8, hw8⟩ : ∃ w8, y3.alloc (.cells V3 33 (0, 0)) = w8 := ⟨_, rfl⟩
    have hb8 : Below y3.heap.size y3 w8 := by rw [← hw8]; exact (Below.refl _ y3).alloc (Nat.le_refl _) _
    have h8 : w8.heap[y3.heap.size]? = some (.cells V3 33 (0, 0)) := by rw [← hw8]; exact heap_alloc_new y3 _
    have hz8 : w8.heap.size = y3.heap.size + 1 := by rw [← hw8]; simp
    have hk8 : Below (B + 2) wB w8 := KK.out _ _ (KK.out _ _ hk7 hy3) hb8
    have hz3 := hy3.size
    have h58 : w8.heap[R]? = some (.cells T 22 (0, 0)) := (hb8.block R (by omega)).trans ((hy3.block R (by omega)).trans h56)
    have hRR : R < y3.heap.size := by omega
    have ck8 := HK.out _ hk8
    have HW8 := Lib.hid hw8
    clear hw8 hb8 hy3 h71 hk7 h7 h67 h56 hz2 hz3 hz6 hz7 hR1
    go_wp2_with (first | (with_reducible refine wp_store_fresh rfl 33 _ _ rfl V3 Y 33 rfl rfl HS3 HY3 HO3 ?_; rw [HW8.out]))
    refine (C5.out _).mono ?_
    rintro e y4 ⟨v2, gg, rfl, hO2, hy4⟩
    obtain ⟨Yf, hYf⟩ : ∃ Yf, frA 0 nilV = Yf := ⟨_, rfl⟩
    have hFz : ∀ w, (zeroValue 29).run Try.prog w = .ok (.agg Yf) w := by rw [← hYf]; exact fr_zero
    have HYF : Yf.size = (frA k v2).size := by rw [← hYf]; rfl
    have HSF := fr_sized fr_size k v2
    have HOF := fr_ones k v2 hO2.ones
    obtain ⟨X2, hX2⟩ : ∃ X2, frA k v2 = X2 := ⟨_, rfl⟩
    obtain ⟨w9, hw9⟩ : ∃ w9, y4.alloc (.cells X2 29 (0, 0)) = w9 := ⟨_, rfl⟩
    have hb9 : Below y4.heap.size y4 w9 := by rw [← hw9]; exact (Below.refl _ y4).alloc (Nat.le_refl _) _
    have h9 : w9.heap[y4.heap.size]? = some (.cells X2 29 (0, 0)) := by rw [← hw9]; exact heap_alloc_new y4 _
    have hz9 : w9.heap.size = y4.heap.size + 1 := by rw [← hw9]; simp
    have hz4 := hy4.size
    have h59 : w9.heap[R]? = some (.cells T 22 (0, 0)) := (hb9.block R (by omega)).trans ((hy4.block R (by omega)).trans h58)
    have h89 : w9.heap[y3.heap.size]? = some (.cells V3 33 (0, 0)) := (hb9.block y3.heap.size (by omega)).trans ((hy4.block y3.heap.size (by omega)).trans h8)
    have hk9 : Below (B + 2) wB w9 := KK.out _ _ (KK.out _ _ hk8 hy4) hb9
    have cQ := C6.out w9 v2 (hO2.below HNP.out hb9).at
    have hz39 : y3.heap.size < w9.heap.size := by omega
    have HW9 := Lib.hid hw9
    rw [hX2] at HYF HSF HOF cQ ⊢
    clear hw9 hb9 hy4 hO2 hYf hX2 h58 h8 hk8 hz4 ck8 hz8
    go_wp2_with (first | (with_reducible refine wp_store_fresh rfl 29 _ _ rfl X2 Yf 29 rfl rfl HSF HYF HOF ?_; rw [HW9.out]) | (with_reducible refine wpList_load_row rfl 29 _ rfl y4.heap.size rfl 29 X2 (0, 0) _ h9 Try.underlying29 rfl HSF ?_) | (with_reducible refine wpList_load_row rfl 22 _ rfl R rfl 22 T (0, 0) _ h59 Try.underlying22 rfl HST ?_))
    refine cQ.mono ?_
    rintro e y5 ⟨rfl, hy5⟩
    obtain ⟨wX, hwX⟩ : ∃ wX, y5.alloc (.cells V4 33 (0, 0)) = wX := ⟨_, rfl⟩
    have hbX : Below y5.heap.size y5 wX := by rw [← hwX]; exact (Below.refl _ y5).alloc (Nat.le_refl _) _
    have hX4 : wX.heap[y5.heap.size]? = some (.cells V4 33 (0, 0)) := by rw [← hwX]; exact heap_alloc_new y5 _
    have hzX : wX.heap.size = y5.heap.size + 1 := by rw [← hwX]; simp
    have hz5 := hy5.size
    have hX3 : wX.heap[y3.heap.size]? = some (.cells V3 33 (0, 0)) := (hbX.block y3.heap.size (by omega)).trans ((hy5.block y3.heap.size (by omega)).trans h89)
    have hkX : Below (B + 2) wB wX := KK.out _ _ (KK.out _ _ hk9 hy5) hbX
    have hzp : y3.heap.size < wX.heap.size := by omega
    have hzq : y5.heap.size < wX.heap.size := by omega
    have HWX := Lib.hid hwX
    clear hwX hbX hy5 h59 h89 hk9 hz9 h9 hFz HYF HSF HOF cQ hz39 hz5 hzX
    go_wp2_with (first | (with_reducible refine wp_store_fresh rfl 33 _ _ rfl V4 Y 33 rfl rfl HS4 HY4 HO4 ?_; rw [HWX.out]))
    generalize y3.heap.size = Rp at *
    generalize y5.heap.size = Rq at *
    have HC := Lib.hid (fun (x : World) (hx : Below wX.heap.size wX x) => KK.out _ _ hkX hx)
    have HP3 := Lib.hid (fun (x : World) (hx : Below wX.heap.size wX x) i (hi : i < 384) => (arn_cell (T := 33) (f := predF k q f a b) (by rw [← HV3.out] at hX3; exact (hx.block Rp hzp).trans hX3) hi : x.cell? ⟨Rp, i, none⟩ = some (.int .i64 (predF k q f a b i))))
    have HP4 := Lib.hid (fun (x : World) (hx : Below wX.heap.size wX x) i (hi : i < 384) => ((arn_cell (T := 33) (f := predF k q (fun _ _ => clip s 0 255) a b) (by rw [← HV4.out] at hX4; exact (hx.block Rq hzq).trans hX4) hi).trans (by rw [flat_pred]) : x.cell? ⟨Rq, i, none⟩ = some (.int .i64 (clip s 0 255))))
    have hxX : Below wX.heap.size wX wX := Below.refl _ _
    clear HWX HW9 HW8 HW7 HW6 C1 C2 C4 C5 C6 hX3 hX4 hzp hzq hkX hRR HYV HY1 HS1 HO1 HZ1
    go_loopw [19] (fun z wr => ∃ t : Nat, t ≤ 6 ∧ z = .int .i64 t ∧ Below wX.heap.size wX wr) (fun z _ => 6 - (RowKit.intOf z).toNat)
    case atStart => exact ⟨0, by omega, rfl, hxX⟩
    case round =>
      obtain ⟨t, ht6, rfl, hx⟩ := hrel
      generalize wr = wo at *
      by_cases hlt : t < 6
      · have t0 : decide ((t : Int) < 6) = true := by simp; omega
        have hP3 := plc_most hlt
        obtain ⟨ad, cc, hv, hcc, hd⟩ := HF.out wo (HC.out _ hx) _ hP3
        have hNs : n (plc t) = siz k (plc t) := (rightF_iff.1 HR.out).2 _ hP3
        have hN0 : 0 < n (plc t) := by rw [hNs]; exact HNP.out _ hP3
        have hNm : n (plc t) ≤ 1622016 := by rw [hNs]; exact siz_most _ _
        obtain ⟨bb, oo, rfl, -⟩ : ∃ bb oo, ad = some ⟨bb, oo, none⟩ ∧ ∀ i, i < n (plc t) → wo.cell? ⟨bb, oo + i, none⟩ = some (.int .u8 (f (plc t) i)) ∧ 0 ≤ f (plc t) i ∧ f (plc t) i ≤ 255 := by
          rcases hd with h0 | h0
          · omega
          · exact h0
        have HCE := Lib.hid (fun (x : World) (hx : Below wX.heap.size wX x) (i : Nat) (hi : i < n (plc t)) => (by
          obtain ⟨ad', cc', hv', _, hd'⟩ := HF.out x (HC.out _ hx) _ hP3
          rw [hv] at hv'
          injection hv' with e1 _ _
          subst e1
          rcases hd' with h0 | ⟨b', o', e2, h0⟩
          · omega
          · injection e2 with e2
            injection e2 with e2 e3 _
            subst e2 e3
            exact h0 i hi : x.cell? ⟨bb, oo + i, none⟩ = some (.int .u8 (f (plc t) i)) ∧ 0 ≤ f (plc t) i ∧ f (plc t) i ≤ 255))
        have hmx := plc_max t
        have kp := HKP.out wo (HC.out _ hx) _ hP3
        rw [hv] at kp
        have HBT := Lib.hid (fun i (hi : i < 64) => pred_between HQ.out HYM.out hlt hi (fun j hj => low_all (f (plc t)) (n (plc t)) j (by rw [hNs]; exact hj)))
        have HLI := Lib.hid (low_in (f (plc t)) hN0 (fun j hj => (HCE.out wo hx j hj).2))
        have hg0 : lowF (f (plc t)) 0 = f (plc t) 0 ∧ higF (f (plc t)) 0 = f (plc t) 0 := ⟨rfl, rfl⟩
        have HG0 := Lib.hid hg0
        have HGN := Lib.hid (fun j => (⟨rfl, rfl⟩ : lowF (f (plc t)) (j + 1) = min (lowF (f (plc t)) j) (f (plc t) j) ∧ higF (f (plc t)) (j + 1) = max (higF (f (plc t)) j) (f (plc t) j)))
        clear hd hNs hv hcc hg0
        generalize plc t = P at *
        generalize n P = N at *
        generalize f P = g at *
        go_wp2
        have HC0 := Lib.hid (fun (x : World) (hx : Below wX.heap.size wX x) => (by have := (HCE.out x hx 0 hN0).1; rw [Nat.add_zero] at this; exact this : x.cell? ⟨bb, oo, none⟩ = some (.int .u8 (g 0))))
        have q0 := (HCE.out wo hx 0 hN0).2
        refine wp_region_calm (S := fun x => Below wX.heap.size wX x) 8 (by kernel_rfl) (by kernel_rfl) hx.drew ?_
        simp only [List.take_succ_cons, List.take_zero, List.drop_succ_cons, List.drop_zero]
        refine calm_value (v := ?vg0) (by kernel_rfl) ?mm ?_; (case mm => (intro x _; go_simp; try with_reducible rfl))
        simp only [Act.put, List.setIfInBounds_toArray, List.set_cons_zero, List.set_cons_succ]
        refine calm_value (v := ?vg1) (by kernel_rfl) ?mm ?_; (case mm => (intro x _; go_simp; try with_reducible rfl))
        simp only [Act.put, List.setIfInBounds_toArray, List.set_cons_zero, List.set_cons_succ]
        refine calm_cell 5 _ ⟨bb, oo, none⟩ (.int .u8 (g 0)) (by kernel_rfl) rfl rfl (fun x hx => by have c0 := HC0.out x hx; go_simp) ?_
        simp only [Act.put, List.setIfInBounds_toArray, List.set_cons_zero, List.set_cons_succ]
        refine calm_value (v := ?vg3) (by kernel_rfl) ?mm ?_; (case mm => (intro x _; go_simp; try with_reducible rfl))
        simp only [Act.put, List.setIfInBounds_toArray, List.set_cons_zero, List.set_cons_succ]
        refine calm_value (v := ?vg4) (by kernel_rfl) ?mm ?_; (case mm => (intro x _; go_simp; try with_reducible rfl))
        simp only [Act.put, List.setIfInBounds_toArray, List.set_cons_zero, List.set_cons_succ]
        refine calm_cell 5 _ ⟨bb, oo, none⟩ (.int .u8 (g 0)) (by kernel_rfl) rfl rfl (fun x hx => by have c0 := HC0.out x hx; go_simp) ?_
        simp only [Act.put, List.setIfInBounds_toArray, List.set_cons_zero, List.set_cons_succ]
        refine calm_value (v := ?vg6) (by kernel_rfl) ?mm ?_; (case mm => (intro x _; go_simp; try with_reducible rfl))
        simp only [Act.put, List.setIfInBounds_toArray, List.set_cons_zero, List.set_cons_succ]
        refine calm_value (v := ?vg7) (by kernel_rfl) ?mm ?_; (case mm => (intro x _; go_simp; try with_reducible rfl))
        simp only [Act.put, List.setIfInBounds_toArray, List.set_cons_zero, List.set_cons_succ]
        refine calm_nil fun x hx => ?_
        have HGA := Lib.hid (show Value.int .u8 (g 0) = .int .u8 (lowF g 0) from rfl)
        have HGB := Lib.hid (show Value.int .u8 (g 0) = .int .u8 (higF g 0) from rfl)
        clear q0 kp hmx
        go_wp2
        go_loopw [21, 22, 23] (fun lo hi z wr => ∃ j : Nat, j ≤ N ∧ z = .int .i64 j ∧ lo = .int .u8 (lowF g j) ∧ hi = .int .u8 (higF g j) ∧ Below wX.heap.size wX wr) (fun _ _ z _ => N - (RowKit.intOf z).toNat)
        case atStart => exact ⟨0, by omega, rfl, HGA.out, HGB.out, hx⟩
        case round =>
          obtain ⟨j, hjN, rfl, rfl, rfl, hx⟩ := hrel
          generalize wr = wp at *
          obtain ⟨l1, l2⟩ := HLI.out j hjN
          by_cases hlj : j < N
          · have t1 : decide ((j : Int) < (N : Int)) = true := by simp; omega
            have t2 : decide (j < N) = true := by simp; omega
            have q1 := (HCE.out wp hx j hlj).2
            have HC1 := Lib.hid (fun (x : World) (hx : Below wX.heap.size wX x) => (HCE.out x hx j hlj).1)
            obtain ⟨e3, e4⟩ := HGN.out j
            have HE3 := Lib.hid e3
            have HE4 := Lib.hid e4
            clear e3 e4
            generalize hlo : lowF g j = lo at *
            generalize hhi : higF g j = hi at *
            generalize g j = z at *
            go_wp2
            refine wp_region_calm (S := fun x => Below wX.heap.size wX x) 14 (by kernel_rfl) (by kernel_rfl) hx.drew ?_
            simp only [List.take_succ_cons, List.take_zero, List.drop_succ_cons, List.drop_zero]
            refine calm_value (v := ?vh0) (by kernel_rfl) ?mm ?_; (case mm => (intro x _; go_simp; try with_reducible rfl))
            simp only [Act.put, List.setIfInBounds_toArray, List.set_cons_zero, List.set_cons_succ]
            refine calm_value (v := ?vh1) (by kernel_rfl) ?mm ?_; (case mm => (intro x _; go_simp; try with_reducible rfl))
            simp only [Act.put, List.setIfInBounds_toArray, List.set_cons_zero, List.set_cons_succ]
            refine calm_value (v := ?vh2) (by kernel_rfl) ?mm ?_; (case mm => (intro x _; go_simp; try with_reducible rfl))
            simp only [Act.put, List.setIfInBounds_toArray, List.set_cons_zero, List.set_cons_succ]
            refine calm_value (v := ?vh3) (by kernel_rfl) ?mm ?_; (case mm => (intro x _; go_simp; try with_reducible rfl))
            simp only [Act.put, List.setIfInBounds_toArray, List.set_cons_zero, List.set_cons_succ]
            refine calm_cell 5 _ ⟨bb, oo + j, none⟩ (.int .u8 z) (by kernel_rfl) rfl rfl (fun x hx => by have c0 := HC1.out x hx; go_simp) ?_
            simp only [Act.put, List.setIfInBounds_toArray, List.set_cons_zero, List.set_cons_succ]
            refine calm_value (v := ?vh5) (by kernel_rfl) ?mm ?_; (case mm => (intro x _; go_simp; try with_reducible rfl))
            simp only [Act.put, List.setIfInBounds_toArray, List.set_cons_zero, List.set_cons_succ]
            refine calm_value (v := ?vh6) (by kernel_rfl) ?mm ?_; (case mm => (intro x _; go_simp; try with_reducible rfl))
            simp only [Act.put, List.setIfInBounds_toArray, List.set_cons_zero, List.set_cons_succ]
            refine calm_value (v := ?vh7) (by kernel_rfl) ?mm ?_; (case mm => (intro x _; go_simp; try with_reducible rfl))
            simp only [Act.put, List.setIfInBounds_toArray, List.set_cons_zero, List.set_cons_succ]
            refine calm_value (v := ?vh8) (by kernel_rfl) ?mm ?_; (case mm => (intro x _; go_simp; try with_reducible rfl))
            simp only [Act.put, List.setIfInBounds_toArray, List.set_cons_zero, List.set_cons_succ]
            refine calm_value (v := ?vh9) (by kernel_rfl) ?mm ?_; (case mm => (intro x _; go_simp; try with_reducible rfl))
            simp only [Act.put, List.setIfInBounds_toArray, List.set_cons_zero, List.set_cons_succ]
            refine calm_cell 5 _ ⟨bb, oo + j, none⟩ (.int .u8 z) (by kernel_rfl) rfl rfl (fun x hx => by have c0 := HC1.out x hx; go_simp) ?_
            simp only [Act.put, List.setIfInBounds_toArray, List.set_cons_zero, List.set_cons_succ]
            refine calm_value (v := ?vh11) (by kernel_rfl) ?mm ?_; (case mm => (intro x _; go_simp; try with_reducible rfl))
            simp only [Act.put, List.setIfInBounds_toArray, List.set_cons_zero, List.set_cons_succ]
            refine calm_value (v := ?vh12) (by kernel_rfl) ?mm ?_; (case mm => (intro x _; go_simp; try with_reducible rfl))
            simp only [Act.put, List.setIfInBounds_toArray, List.set_cons_zero, List.set_cons_succ]
            refine calm_value (v := ?vh13) (by kernel_rfl) ?mm ?_; (case mm => (intro x _; go_simp; try with_reducible rfl))
            simp only [Act.put, List.setIfInBounds_toArray, List.set_cons_zero, List.set_cons_succ]
            refine calm_nil fun x hx => ?_
            have HHX := Lib.hid hx
            clear hx q1 l1 l2 t1 t2 hlo hhi
            go_wp2
            go_roundw
            case rel => exact ⟨j + 1, by omega, by go_num, by rw [HE3.out], by rw [HE4.out], HHX.out⟩
            case measure => simp [RowKit.intOf]; omega
          · obtain rfl : j = N := by omega
            have t1 : decide ((j : Int) < (j : Int)) = false := by simp
            have t2 : decide (j < j) = false := by simp
            generalize hlo : lowF g j = lo at *
            generalize hhi : higF g j = hi at *
            have HMM := Lib.hid (show min (max s 0) 255 = clip s 0 255 by unfold clip; omega)
            have hcl := clip_lo s 0 255
            have hch := clip_hi s 0 255 (by omega)
            clear hlj HCE HGN HG0 HGA HGB
            go_wp2
            go_loopw [24] (fun z wr => ∃ i : Nat, i ≤ 64 ∧ z = .int .i64 i ∧ Below wX.heap.size wX wr) (fun z _ => 64 - (RowKit.intOf z).toNat)
            case atStart => exact ⟨0, by omega, rfl, hx⟩
            case round =>
              clear hx
              obtain ⟨i, hi64, rfl, hx⟩ := hrel
              by_cases hli : i < 64
              · have t3 : decide ((i : Int) < 64) = true := by simp; omega
                have et : t * 64 + i = 64 * t + i := by omega
                obtain ⟨p1, p2⟩ := HBT.out i hli
                have HQ3 := Lib.hid (fun (x : World) (hx : Below wX.heap.size wX x) => (by rw [et]; exact HP3.out x hx (64 * t + i) (by omega) : x.cell? ⟨Rp, t * 64 + i, none⟩ = some (.int .i64 (predF k q f a b (64 * t + i)))))
                have HQ4 := Lib.hid (fun (x : World) (hx : Below wX.heap.size wX x) => HP4.out x hx (t * 64 + i) (by omega))
                have hM := HMM.out
                generalize predF k q f a b (64 * t + i) = y at *
                generalize clip s 0 255 = c at *
                have g1' : (c != c) = false := by simp
                have g2' : decide (y < lo) = false := decide_eq_false (by omega)
                have g3' : decide (hi < y) = false := decide_eq_false (by omega)
                have w1 : IntKind.i64.wrap lo = lo := wrapN (by omega)
                have w2 : IntKind.i64.wrap hi = hi := wrapN (by omega)
                clear et p1 p2
                have c3 := HQ3.out wr hx
                have c4 := HQ4.out wr hx
                have HHX := Lib.hid hx
                clear hx
                go_wp2
                go_roundw
                case rel => exact ⟨i + 1, by omega, by go_num, HHX.out⟩
                case measure => simp [RowKit.intOf]; omega
              · obtain rfl : i = 64 := by omega
                have t3 : decide ((64 : Int) < 64) = false := by simp
                have HHX := Lib.hid hx
                clear hx
                go_wp2
                go_roundw
                case rel => exact ⟨t + 1, by omega, by go_num, HHX.out⟩
                case measure => simp [RowKit.intOf]; omega
      · obtain rfl : t = 6 := by omega
        have t0 : decide ((6 : Int) < 6) = false := by simp
        go_wp2_with fail
        refine (CL.out _ (HC.out _ hx)).mono ?_
        rintro e y9 ⟨rfl, hy9⟩
        go_wp2
        go_ret
        exact ⟨rfl, HW.out _ hy9⟩
end Go.Proofs.Ytnpmllbdpmkliaa
