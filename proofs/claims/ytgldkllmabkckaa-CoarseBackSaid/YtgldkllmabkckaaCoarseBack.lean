/- Of any level's value that was not clipped both ways tell the level again; by a greater quantiser no amount is greater; what is predicted has no greater amount than what is not; no amount is above 127; and the chapter's examples come out. No condition. -/
import Derived.Test.YtgldkllmabkckaaRows
import Derived.Test.YtgldkllmabkckaaLev
import Derived.Test.YtgldkllmabkckaaRes
import Derived.Test.YtgldkllmabkckaaCalm
import Derived.Test.YtgldkllmabkckaaLaws
import Derived.OwnWalk
import Derived.ProofKit
namespace Go.Proofs.Ytgldkllmabkckaa
open Go.ChangeShapes Go.WideShapes Go.ChangeAt Go.RowKit

/-- A byte's rest, as the walk meets it. -/
theorem byte_rest {a : Int} (h : (Lit.int .u8 a).wf = true) : 0 ≤ a ∧ a ≤ 255 := by
  have h' : (decide (IntKind.u8.min ≤ a) && decide (a ≤ IntKind.u8.max)) = true := h
  rw [Bool.and_eq_true, decide_eq_true_iff, decide_eq_true_iff] at h'
  have e1 : IntKind.u8.min = 0 := rfl
  have e2 : IntKind.u8.max = 255 := rfl
  omega
set_option maxRecDepth 100000 in
set_option maxHeartbeats 2000000 in
theorem coarseBack_walk (l a b v : Int) (_ : (Lit.int .i64 l).wf = true) (h0 : (Lit.int .u8 a).wf = true) (h1 : (Lit.int .u8 b).wf = true) (_ : (Lit.int .i64 v).wf = true) (w : World) : Calls Try.prog 5 #[.int .i64 l, .agg #[.int .u8 a, .int .u8 b], .int .i64 v] w fun e w' => e = .returned (.bool true) ∧ Below w.heap.size w w' := by
  obtain ⟨a0, a1⟩ := byte_rest h0
  obtain ⟨b0, b1⟩ := byte_rest h1
  clear h0 h1
  obtain ⟨B, hB⟩ : ∃ B, w.heap.size = B := ⟨_, rfl⟩
  obtain ⟨wA, hwA⟩ : ∃ wA, w.alloc (.cells #[.int .u8 a, .int .u8 b] 30 (0, 0)) = wA := ⟨_, rfl⟩
  have hzA : wA.heap.size = B + 1 := by rw [← hwA, ← hB]; simp
  have hA1 : wA.heap[B]? = some (.cells #[.int .u8 a, .int .u8 b] 30 (0, 0)) := by rw [← hwA, ← hB]; exact heap_alloc_new w _
  have hbA : Below B w wA := by rw [← hwA, ← hB]; exact (Below.refl _ w).alloc (Nat.le_refl _) _
  have HT := Lib.hid (fun (x : World) (hx : Below (B + 1) wA x) => (⟨cell_of_row x B 0 _ _ _ ((hx.block B (by omega)).trans hA1), cell_of_row x B 1 _ _ _ ((hx.block B (by omega)).trans hA1)⟩ : x.cell? ⟨B, 0, none⟩ = some (.int .u8 a) ∧ x.cell? ⟨B, 1, none⟩ = some (.int .u8 b)))
  have HWA := Lib.hid hwA
  have HB := Lib.hid hB
  have HBA := Lib.hid hbA
  clear hwA hB hbA hA1 hzA
  go_enter Try.func5, Try.ntmps5
  go_wp2
  rw [HWA.out, HB.out]
  refine wp_region_calm (S := fun x => Below (B + 1) wA x) 12 (by kernel_rfl) (by kernel_rfl) (Below.refl _ _).drew ?_
  simp only [List.take_succ_cons, List.take_zero, List.drop_succ_cons, List.drop_zero]
  refine calm_value (v := ?v0) (by kernel_rfl) ?m ?_; (case m => (intro x _; go_simp; try with_reducible rfl))
  simp only [Act.put, List.setIfInBounds_toArray, List.set_cons_zero, List.set_cons_succ]
  refine calm_cell 5 _ ⟨B, 0, none⟩ (.int .u8 a) (by kernel_rfl) rfl rfl (fun x hx => by have c0 := (HT.out x hx).1; go_simp) ?_
  simp only [Act.put, List.setIfInBounds_toArray, List.set_cons_zero, List.set_cons_succ]
  refine calm_value (v := ?v2) (by kernel_rfl) ?m ?_; (case m => (intro x _; go_simp; try with_reducible rfl))
  simp only [Act.put, List.setIfInBounds_toArray, List.set_cons_zero, List.set_cons_succ]
  refine calm_value (v := ?v3) (by kernel_rfl) ?m ?_; (case m => (intro x _; go_simp; try with_reducible rfl))
  simp only [Act.put, List.setIfInBounds_toArray, List.set_cons_zero, List.set_cons_succ]
  refine calm_value (v := ?v4) (by kernel_rfl) ?m ?_; (case m => (intro x _; go_simp; try with_reducible rfl))
  simp only [Act.put, List.setIfInBounds_toArray, List.set_cons_zero, List.set_cons_succ]
  refine calm_value (v := ?v5) (by kernel_rfl) ?m ?_; (case m => (intro x _; go_simp; try with_reducible rfl))
  simp only [Act.put, List.setIfInBounds_toArray, List.set_cons_zero, List.set_cons_succ]
  refine calm_cell 5 _ ⟨B, 1, none⟩ (.int .u8 b) (by kernel_rfl) rfl rfl (fun x hx => by have c0 := (HT.out x hx).2; go_simp) ?_
  simp only [Act.put, List.setIfInBounds_toArray, List.set_cons_zero, List.set_cons_succ]
  refine calm_value (v := ?v7) (by kernel_rfl) ?m ?_; (case m => (intro x _; go_simp; try with_reducible rfl))
  simp only [Act.put, List.setIfInBounds_toArray, List.set_cons_zero, List.set_cons_succ]
  refine calm_value (v := ?v8) (by kernel_rfl) ?m ?_; (case m => (intro x _; go_simp; try with_reducible rfl))
  simp only [Act.put, List.setIfInBounds_toArray, List.set_cons_zero, List.set_cons_succ]
  refine calm_value (v := ?v9) (by kernel_rfl) ?m ?_; (case m => (intro x _; go_simp; try with_reducible rfl))
  simp only [Act.put, List.setIfInBounds_toArray, List.set_cons_zero, List.set_cons_succ]
  refine calm_value (v := ?v10) (by kernel_rfl) ?m ?_; (case m => (intro x _; go_simp; try with_reducible rfl))
  simp only [Act.put, List.setIfInBounds_toArray, List.set_cons_zero, List.set_cons_succ]
  refine calm_value (v := ?v11) (by kernel_rfl) ?m ?_; (case m => (intro x _; go_simp; try with_reducible rfl))
  simp only [Act.put, List.setIfInBounds_toArray, List.set_cons_zero, List.set_cons_succ]
  refine calm_nil fun x hx => ?_
  have hbx := Lib.hid (show Below B w x from HBA.out.trans (hx.mono (by omega)))
  have q0 : 1 ≤ 1 + a % 31 ∧ 1 + a % 31 ≤ 31 := by omega
  have t0 : 1 ≤ 1 + b % 31 ∧ 1 + b % 31 ≤ 31 := by omega
  have EA : IntKind.i64.wrap (1 + (IntKind.i64.wrap a).tmod 31) = 1 + a % 31 := by
    rw [show IntKind.i64.wrap a = a by rw [IntKind.wrap_i64]; omega, Int.tmod_eq_emod_of_nonneg a0, IntKind.wrap_i64]
    omega
  have EB : IntKind.i64.wrap (1 + (IntKind.i64.wrap b).tmod 31) = 1 + b % 31 := by
    rw [show IntKind.i64.wrap b = b by rw [IntKind.wrap_i64]; omega, Int.tmod_eq_emod_of_nonneg b0, IntKind.wrap_i64]
    omega
  rw [EA, EB]
  clear hx HT HWA a0 a1 b0 b1 HBA EA EB
  generalize 1 + a % 31 = q at *
  generalize 1 + b % 31 = t at *
  obtain ⟨q1, q2⟩ := q0
  obtain ⟨t1, t2⟩ := t0
  have cv := fun w => val_code l q w
  have hl := lives13
  have c1 := fun w => inter_code v q w
  have c2 := fun w => inter_code v t w
  have c3 := fun w => intra_code v q w
  have c4 := fun w => intra_code v t w
  have m1 := lev_abs v q false q1 q2
  have m2 := lev_abs v t false t1 t2
  have m3 := lev_abs v q true q1 q2
  have m4 := lev_abs v t true t1 t2
  have r1 := lev_cases v q false q1 q2
  have r2 := lev_cases v t false t1 t2
  have r3 := lev_cases v q true q1 q2
  have r4 := lev_cases v t true t1 t2
  have s1 := abs_within v q false q1
  have s2 := abs_within v t false t1
  have s3 := abs_within v q true q1
  have s4 := abs_within v t true t1
  have s5 := fun h => abs_step v false q1 (t := t) h
  have s6 := fun h => abs_step v true q1 (t := t) h
  have s7 := abs_kind v q1
  have B1 := fun b h0 h1 h4 h5 => lev_back (l := l) (q := q) b h0 h1 q1 q2 h4 h5
  have ci := fun w => inter_code (valV l q) q w
  have cj := fun w => intra_code (valV l q) q w
  generalize levV v q false = i1 at *
  generalize levV v t false = i2 at *
  generalize levV v q true = i3 at *
  generalize levV v t true = i4 at *
  generalize absV v q false = A1 at *
  generalize absV v t false = A2 at *
  generalize absV v q true = A3 at *
  generalize absV v t true = A4 at *
  have u1 : -127 ≤ i1 ∧ i1 ≤ 127 := by omega
  have u2 : -127 ≤ i2 ∧ i2 ≤ 127 := by omega
  have u3 : -127 ≤ i3 ∧ i3 ≤ 127 := by omega
  have u4 : -127 ≤ i4 ∧ i4 ≤ 127 := by omega
  clear r1 r2 r3 r4 s1 s2 s4
  obtain ⟨s8, s9⟩ := s3
  obtain ⟨u11, u12⟩ := u1
  obtain ⟨u21, u22⟩ := u2
  obtain ⟨u31, u32⟩ := u3
  obtain ⟨u41, u42⟩ := u4
  generalize valV l q = y at *
  have K : decide (q ≤ t) = true → A2 ≤ A1 ∧ A4 ≤ A3 := fun h => ⟨s5 (by simpa using h), s6 (by simpa using h)⟩
  clear s5 s6
  obtain ⟨le, hle⟩ : ∃ le, decide (q ≤ t) = le := ⟨_, rfl⟩
  rw [hle] at K
  cases le with
  | true =>
    obtain ⟨k1, k2⟩ := K rfl
    clear K
    by_cases hr : -127 ≤ l ∧ l ≤ 127
    · obtain ⟨l1, l2⟩ := hr
      by_cases hy : -2048 < y ∧ y < 2047
      · obtain ⟨y1, y2⟩ := hy
        rw [B1 false l1 l2 y1 y2] at ci
        rw [B1 true l1 l2 y1 y2] at cj
        clear B1
        go_wp2_with (first
          | (with_reducible refine (cv _).mono ?_; rintro e w1 ⟨rfl, rfl⟩)
          | (with_reducible refine (ci _).mono ?_; rintro e w1 ⟨rfl, rfl⟩)
          | (with_reducible refine (cj _).mono ?_; rintro e w1 ⟨rfl, rfl⟩)
          | (with_reducible refine (c1 _).mono ?_; rintro e w1 ⟨rfl, rfl⟩)
          | (with_reducible refine (c2 _).mono ?_; rintro e w1 ⟨rfl, rfl⟩)
          | (with_reducible refine (c3 _).mono ?_; rintro e w1 ⟨rfl, rfl⟩)
          | (with_reducible refine (c4 _).mono ?_; rintro e w1 ⟨rfl, rfl⟩)
          | (with_reducible refine (hl _).mono ?_; rintro e w1 ⟨rfl, rfl⟩))
        all_goals (go_ret; exact ⟨rfl, by rw [HB.out]; exact hbx.out⟩)
      · clear B1 ci cj
        by_cases hz : -2048 < y
        · have hz2 : ¬ y < 2047 := fun h => hy ⟨hz, h⟩
          clear hy
          go_wp2_with (first
            | (with_reducible refine (cv _).mono ?_; rintro e w1 ⟨rfl, rfl⟩)
            | (with_reducible refine (c1 _).mono ?_; rintro e w1 ⟨rfl, rfl⟩)
            | (with_reducible refine (c2 _).mono ?_; rintro e w1 ⟨rfl, rfl⟩)
            | (with_reducible refine (c3 _).mono ?_; rintro e w1 ⟨rfl, rfl⟩)
            | (with_reducible refine (c4 _).mono ?_; rintro e w1 ⟨rfl, rfl⟩)
            | (with_reducible refine (hl _).mono ?_; rintro e w1 ⟨rfl, rfl⟩))
          all_goals (go_ret; exact ⟨rfl, by rw [HB.out]; exact hbx.out⟩)
        · clear hy
          go_wp2_with (first
            | (with_reducible refine (cv _).mono ?_; rintro e w1 ⟨rfl, rfl⟩)
            | (with_reducible refine (c1 _).mono ?_; rintro e w1 ⟨rfl, rfl⟩)
            | (with_reducible refine (c2 _).mono ?_; rintro e w1 ⟨rfl, rfl⟩)
            | (with_reducible refine (c3 _).mono ?_; rintro e w1 ⟨rfl, rfl⟩)
            | (with_reducible refine (c4 _).mono ?_; rintro e w1 ⟨rfl, rfl⟩)
            | (with_reducible refine (hl _).mono ?_; rintro e w1 ⟨rfl, rfl⟩))
          all_goals (go_ret; exact ⟨rfl, by rw [HB.out]; exact hbx.out⟩)
    · clear B1 ci cj
      by_cases hz : -127 ≤ l
      · have hz2 : ¬ l ≤ 127 := fun h => hr ⟨hz, h⟩
        clear hr
        go_wp2_with (first
          | (with_reducible refine (c1 _).mono ?_; rintro e w1 ⟨rfl, rfl⟩)
          | (with_reducible refine (c2 _).mono ?_; rintro e w1 ⟨rfl, rfl⟩)
          | (with_reducible refine (c3 _).mono ?_; rintro e w1 ⟨rfl, rfl⟩)
          | (with_reducible refine (c4 _).mono ?_; rintro e w1 ⟨rfl, rfl⟩)
          | (with_reducible refine (hl _).mono ?_; rintro e w1 ⟨rfl, rfl⟩))
        all_goals (go_ret; exact ⟨rfl, by rw [HB.out]; exact hbx.out⟩)
      · clear hr
        go_wp2_with (first
          | (with_reducible refine (c1 _).mono ?_; rintro e w1 ⟨rfl, rfl⟩)
          | (with_reducible refine (c2 _).mono ?_; rintro e w1 ⟨rfl, rfl⟩)
          | (with_reducible refine (c3 _).mono ?_; rintro e w1 ⟨rfl, rfl⟩)
          | (with_reducible refine (c4 _).mono ?_; rintro e w1 ⟨rfl, rfl⟩)
          | (with_reducible refine (hl _).mono ?_; rintro e w1 ⟨rfl, rfl⟩))
        all_goals (go_ret; exact ⟨rfl, by rw [HB.out]; exact hbx.out⟩)
  | false =>
    clear K
    by_cases hr : -127 ≤ l ∧ l ≤ 127
    · obtain ⟨l1, l2⟩ := hr
      by_cases hy : -2048 < y ∧ y < 2047
      · obtain ⟨y1, y2⟩ := hy
        rw [B1 false l1 l2 y1 y2] at ci
        rw [B1 true l1 l2 y1 y2] at cj
        clear B1
        go_wp2_with (first
          | (with_reducible refine (cv _).mono ?_; rintro e w1 ⟨rfl, rfl⟩)
          | (with_reducible refine (ci _).mono ?_; rintro e w1 ⟨rfl, rfl⟩)
          | (with_reducible refine (cj _).mono ?_; rintro e w1 ⟨rfl, rfl⟩)
          | (with_reducible refine (c1 _).mono ?_; rintro e w1 ⟨rfl, rfl⟩)
          | (with_reducible refine (c2 _).mono ?_; rintro e w1 ⟨rfl, rfl⟩)
          | (with_reducible refine (c3 _).mono ?_; rintro e w1 ⟨rfl, rfl⟩)
          | (with_reducible refine (c4 _).mono ?_; rintro e w1 ⟨rfl, rfl⟩)
          | (with_reducible refine (hl _).mono ?_; rintro e w1 ⟨rfl, rfl⟩))
        all_goals (go_ret; exact ⟨rfl, by rw [HB.out]; exact hbx.out⟩)
      · clear B1 ci cj
        by_cases hz : -2048 < y
        · have hz2 : ¬ y < 2047 := fun h => hy ⟨hz, h⟩
          clear hy
          go_wp2_with (first
            | (with_reducible refine (cv _).mono ?_; rintro e w1 ⟨rfl, rfl⟩)
            | (with_reducible refine (c1 _).mono ?_; rintro e w1 ⟨rfl, rfl⟩)
            | (with_reducible refine (c2 _).mono ?_; rintro e w1 ⟨rfl, rfl⟩)
            | (with_reducible refine (c3 _).mono ?_; rintro e w1 ⟨rfl, rfl⟩)
            | (with_reducible refine (c4 _).mono ?_; rintro e w1 ⟨rfl, rfl⟩)
            | (with_reducible refine (hl _).mono ?_; rintro e w1 ⟨rfl, rfl⟩))
          all_goals (go_ret; exact ⟨rfl, by rw [HB.out]; exact hbx.out⟩)
        · clear hy
          go_wp2_with (first
            | (with_reducible refine (cv _).mono ?_; rintro e w1 ⟨rfl, rfl⟩)
            | (with_reducible refine (c1 _).mono ?_; rintro e w1 ⟨rfl, rfl⟩)
            | (with_reducible refine (c2 _).mono ?_; rintro e w1 ⟨rfl, rfl⟩)
            | (with_reducible refine (c3 _).mono ?_; rintro e w1 ⟨rfl, rfl⟩)
            | (with_reducible refine (c4 _).mono ?_; rintro e w1 ⟨rfl, rfl⟩)
            | (with_reducible refine (hl _).mono ?_; rintro e w1 ⟨rfl, rfl⟩))
          all_goals (go_ret; exact ⟨rfl, by rw [HB.out]; exact hbx.out⟩)
    · clear B1 ci cj
      by_cases hz : -127 ≤ l
      · have hz2 : ¬ l ≤ 127 := fun h => hr ⟨hz, h⟩
        clear hr
        go_wp2_with (first
          | (with_reducible refine (c1 _).mono ?_; rintro e w1 ⟨rfl, rfl⟩)
          | (with_reducible refine (c2 _).mono ?_; rintro e w1 ⟨rfl, rfl⟩)
          | (with_reducible refine (c3 _).mono ?_; rintro e w1 ⟨rfl, rfl⟩)
          | (with_reducible refine (c4 _).mono ?_; rintro e w1 ⟨rfl, rfl⟩)
          | (with_reducible refine (hl _).mono ?_; rintro e w1 ⟨rfl, rfl⟩))
        all_goals (go_ret; exact ⟨rfl, by rw [HB.out]; exact hbx.out⟩)
      · clear hr
        go_wp2_with (first
          | (with_reducible refine (c1 _).mono ?_; rintro e w1 ⟨rfl, rfl⟩)
          | (with_reducible refine (c2 _).mono ?_; rintro e w1 ⟨rfl, rfl⟩)
          | (with_reducible refine (c3 _).mono ?_; rintro e w1 ⟨rfl, rfl⟩)
          | (with_reducible refine (c4 _).mono ?_; rintro e w1 ⟨rfl, rfl⟩)
          | (with_reducible refine (hl _).mono ?_; rintro e w1 ⟨rfl, rfl⟩))
        all_goals (go_ret; exact ⟨rfl, by rw [HB.out]; exact hbx.out⟩)

theorem coarseBack_own : ownKnob Try.prog.godebug = none := by kernel_rfl
theorem coarseBack_laid : laidOutB Try.prog = true := by kernel_rfl
theorem coarseBack_reads : Try.f5.params.toList.all (fun t => Try.prog.readableRec t && decide (t < Try.prog.types.size)) = true := by kernel_rfl

set_option maxRecDepth 100000 in
theorem coarseBack_lifted (os : Os) (started : os.Started) (H : Type) (enc : TypeId × Value → H) :
    ReturnsInHanded {} Try.checked os 5 .any (Rows.coarseBackSpec.pre6 enc Try.prog Try.f5 Rows.coarseBackRow.domain false) (Rows.coarseBackSpec.post enc Try.prog Try.f5 false true false false) := by
  refine returnsInHanded_of_change (C := Try.checked) coarseBack_own started (by kernel_rfl) Try.func5
    (ChangeSpec.witness6 (enc := enc) (C := Try.checked) false ⟨#[], #[.int .i64 0, .agg #[.int .u8 0, .int .u8 0], .int .i64 0], []⟩ 8 (by kernel_rfl) (by kernel_rfl) (by kernel_rfl) (by kernel_rfl)) ?_
  intro W base args ds gs before hval0 hW hcnd _
  have hval : ∀ (j : Nat) t v, Try.f5.params[j]? = some t → args[j]? = some v → Value.okWide Try.prog W .any base t v := hval0
  have hW' := hW
  obtain ⟨p, q, hA0, hV, rfl, hfz, hnd⟩ := hW
  have hA : DataW.TrodAll enc Try.prog W 0 (fun _ => true) true Try.f5.params.toList args.toList ds p := hA0
  rw [Try.params5] at hA hval
  obtain ⟨v0, vs0, d0, ds0, p0, q0, hargs, rfl, rfl, h0, r0⟩ := trodAll_cons hA
  obtain ⟨v1, vs1, d1, ds1, p1, q1, rfl, rfl, rfl, h1, r1⟩ := trodAll_cons r0
  obtain ⟨v2, vs2, d2, ds2, p2, q2, rfl, rfl, rfl, h2, r2⟩ := trodAll_cons r1
  obtain ⟨rfl, rfl, rfl⟩ := trodAll_nil r2
  obtain rfl : args = #[v0, v1, v2] := by cases args; simp_all
  obtain ⟨rfl, rfl⟩ := trodVars_none hV
  obtain ⟨a0, rfl, rfl, rfl, w0⟩ := open_int Try.underlying3 (hval 0 3 v0 rfl rfl) h0
  obtain ⟨a1, b1, rfl, w1, x1⟩ := open_two Try.underlying30 Try.underlying5 (by kernel_rfl) (by kernel_rfl) (hval 1 30 v1 rfl rfl) h1
  obtain ⟨a2, rfl, rfl, rfl, w2⟩ := open_int Try.underlying3 (hval 2 3 v2 rfl rfl) h2
  clear hA0 hval0
  refine (coarseBack_walk a0 a1 b1 a2 w0 w1 x1 w2 W).mono fun e W' ⟨he, hb⟩ => ?_
  subst he
  exact ⟨_, rfl, law_end coarseBack_laid coarseBack_reads rfl Try.underlying4 rfl hW' rfl hb⟩

theorem coarseBack_over : Rows.coarseBackRow.holds Try.pinned (OpenSpec.ofChange Rows.coarseBackSpec) :=
  OpenClaim.holds_of_wide 5 Try.f5 rfl rfl rfl rfl rfl rfl rfl ⟨rfl, rfl, rfl, rfl, rfl⟩ rfl rfl rfl rfl rfl (by kernel_rfl) Try.func5 (by kernel_rfl)
    (of_decide_eq_true (by kernel_rfl)) (by unfold Func.isWrapper; first | (rw [if_pos (by decide +kernel)]; kernel_rfl) | (rw [if_neg (by decide +kernel)]; exact ⟨rfl, rfl⟩))
    (fun os started H enc _ => coarseBack_lifted os started H enc)

theorem coarseBack_holds : Rows.CoarseBackSaid :=
  coarseBack_over
#print axioms coarseBack_holds
end Go.Proofs.Ytgldkllmabkckaa
