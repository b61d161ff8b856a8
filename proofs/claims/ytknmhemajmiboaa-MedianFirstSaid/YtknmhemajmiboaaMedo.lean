/- The vector foretold, by the code (median.Of). No condition. -/
import Derived.Test.YtknmhemajmiboaaMed
namespace Go.Proofs.Ytknmhemajmiboaa
open Go.RowKit Go.Lib

/-- What a call that answers two numbers gives. -/
def TwoGives (x : Int × Int) (w : World) (e : Ending) (w' : World) : Prop := e = .returned (.agg (twoA x.1 x.2)) ∧ Below w.heap.size w w'
theorem six_cells {w : World} {N : Nat} {x y z : Int × Int} (h : w.heap[N]? = some (.cells (sixA x y z) 28 (0, 0))) :
    (w.cell? ⟨N, 0, none⟩ = some (.int .i64 x.1) ∧ w.cell? ⟨N, 2, none⟩ = some (.int .i64 y.1) ∧ w.cell? ⟨N, 4, none⟩ = some (.int .i64 z.1)) ∧ w.cell? ⟨N, 1, none⟩ = some (.int .i64 x.2) ∧ w.cell? ⟨N, 3, none⟩ = some (.int .i64 y.2) ∧ w.cell? ⟨N, 5, none⟩ = some (.int .i64 z.2) := by
  have k := fun (o : Nat) (v : Value) (hv : [Value.int .i64 x.1, .int .i64 x.2, .int .i64 y.1, .int .i64 y.2, .int .i64 z.1, .int .i64 z.2][o]? = some v) => part_cells (o := o) (cs := [.int .i64 x.1, .int .i64 x.2, .int .i64 y.1, .int .i64 y.2, .int .i64 z.1, .int .i64 z.2]) h hv
  exact ⟨⟨k 0 _ rfl, k 2 _ rfl, k 4 _ rfl⟩, k 1 _ rfl, k 3 _ rfl, k 5 _ rfl⟩
theorem two_first (w : World) (o1 o2 : Obj) : ((w.alloc o1).alloc o2).heap[w.heap.size]? = some o1 := heap_keep (heap_alloc_new w o1)
set_option maxHeartbeats 2000000 in
theorem medof_code (f : Nat → Int × Int) (p : Option Addr) (n cap : Nat) (across first : Int) (w : World) (ha : VecsAt w p n f) (hn : n ≤ maxLen) (hA : across ≤ 9223372036854775807) :
    Calls Try.prog 6 #[.slice p n cap, .int .i64 across, .int .i64 first] w (TwoGives (medV f n across first) w) := by
  have HM := Lib.hid (show medV f n across first = if across < 1 then (0, 0) else (middle (lefV f n across.toNat).1 (aboV f n across.toNat first).1 (rigV f n across.toNat first).1, middle (lefV f n across.toNat).2 (aboV f n across.toNat first).2 (rigV f n across.toNat first).2) from rfl)
  generalize medV f n across first = M at *
  by_cases h1 : across < 1
  · have t0 : decide (across < 1) = true := decide_eq_true h1
    rw [if_pos h1] at HM
    clear ha hn hA h1
    go_enter Try.func6, Try.ntmps6
    go_wp2
    refine bodyPost_ret (results_cell_row rfl _ _ w.heap.size 24 _ (0, 0) _ rfl (two_first w _ _) Try.underlying24 rfl (by kernel_rfl)) rfl ?_
    exact ⟨by rw [HM.out]; rfl, ((Below.refl _ w).alloc (Nat.le_refl _) _).alloc (by simp) _⟩
  · have t0 : decide (across < 1) = false := decide_eq_false h1
    rw [if_neg h1] at HM
    obtain ⟨A, rfl⟩ : ∃ A : Nat, across = (A : Int) := ⟨across.toNat, by omega⟩
    rw [Int.toNat_natCast] at HM
    have c := fun x (hx : Below w.heap.size w x) => around_code f p n cap A first x (ha.mono hx) hn (by omega) (by omega)
    have HT : Below w.heap.size w ((w.alloc zerO).alloc zerO) := ((Below.refl _ w).alloc (Nat.le_refl _) _).alloc (by simp) _
    generalize lefV f n A = L at *
    generalize aboV f n A first = U at *
    generalize rigV f n A first = R at *
    have T1 := two_first w zerO zerO
    have T2 : ((w.alloc zerO).alloc zerO).heap[w.heap.size + 1]? = some zerO := by simpa using heap_alloc_new (w.alloc zerO) zerO
    have T3 : ((w.alloc zerO).alloc zerO).heap.size = w.heap.size + 2 := by simp
    obtain ⟨wA, hwA⟩ : ∃ wA, (w.alloc zerO).alloc zerO = wA := ⟨_, rfl⟩
    have HC := Lib.hid (c wA (hwA ▸ HT))
    rw [hwA] at T1 T2 T3 HT
    obtain ⟨B, hB⟩ : ∃ B, w.heap.size = B := ⟨_, rfl⟩
    rw [hB] at T1 T2 T3 HT
    have HW := Lib.hid hwA
    have HB := Lib.hid hB
    unfold zerO at HW
    clear c ha hn h1 hA hB hwA
    go_enter Try.func6, Try.ntmps6
    go_wp2_with fail
    rw [HW.out, HB.out]
    go_wp2_with (with_reducible refine HC.out.mono ?_; rintro e w1 ⟨rfl, hb1⟩; obtain ⟨N, hN⟩ : ∃ N, w1.heap.size = N := ⟨_, rfl⟩; have hz1 : B + 2 ≤ N := (by have := hb1.size; omega); have K0 := (hb1.block B (by omega)).trans T1; have K1 := (hb1.block (B + 1) (by omega)).trans T2; have KB : Below B w w1 := HT.trans (hb1.mono (by omega)); clear hb1 T1 T2 T3 HT; have hN2 := Lib.hid hN; unfold sixA)
    have K2 := heap_alloc_new w1 (.cells (sixA L U R) 28 (0, 0))
    rw [hN] at K2
    have K3 : Below B w (w1.alloc (.cells (sixA L U R) 28 (0, 0))) := KB.alloc (by omega) _
    have K4 : (w1.alloc (.cells (sixA L U R) 28 (0, 0))).heap.size = N + 1 := by simp [hN]
    replace K0 := heap_keep (ob := .cells (sixA L U R) 28 (0, 0)) K0
    replace K1 := heap_keep (ob := .cells (sixA L U R) 28 (0, 0)) K1
    change Code.wp _ _ _ _ (w1.alloc (.cells (sixA L U R) 28 (0, 0)))
    generalize w1.alloc (.cells (sixA L U R) 28 (0, 0)) = w2 at *
    clear hN hN2 KB
    obtain ⟨l0, l1⟩ := L
    obtain ⟨u0, u1⟩ := U
    obtain ⟨r0, r1⟩ := R
    obtain ⟨m0, hm0⟩ : ∃ m, middle l0 u0 r0 = m := ⟨_, rfl⟩
    obtain ⟨m1, hm1⟩ : ∃ m, middle l1 u1 r1 = m := ⟨_, rfl⟩
    have C0 := Lib.hid (fun w => middle_code l0 u0 r0 w)
    have C1 := Lib.hid (fun w => middle_code l1 u1 r1 w)
    rw [hm0] at C0
    rw [hm1] at C1
    replace HM := Lib.hid (show M = (m0, m1) by rw [HM.out, ← hm0, ← hm1])
    clear hm0 hm1 HC HW
    go_loopw [17] (fun z wr => ∃ j : Nat, j ≤ 2 ∧ z = .int .i64 j ∧ wr.heap[B]? = some zerO ∧ wr.heap[B + 1]? = some (.cells (twoA (if 0 < j then m0 else 0) (if 1 < j then m1 else 0)) 24 (0, 0)) ∧ wr.heap[N]? = some (.cells (sixA (l0, l1) (u0, u1) (r0, r1)) 28 (0, 0)) ∧ Below B w wr ∧ N + 1 ≤ wr.heap.size) (fun z _ => 2 - (intOf z).toNat)
    case atStart => exact ⟨0, by omega, rfl, K0, K1, K2, K3, by omega⟩
    case round =>
      clear K0 K1 K2 K3 K4
      obtain ⟨j, hj, rfl, k0, k1, k2, kb, kz⟩ := hrel
      obtain ⟨⟨x0, x1, x2⟩, x3, x4, x5⟩ := six_cells k2
      have hcase : j = 0 ∨ j = 1 ∨ j = 2 := by omega
      rcases hcase with rfl | rfl | rfl
      · go_wp2
        have C := Lib.hid (fun (x : World) (hx : Below wr.heap.size wr x) => (C0.out x).mono fun e y h => (⟨h.1, h.2 ▸ hx⟩ : e = .returned (.int .i64 m0) ∧ Below wr.heap.size wr y))
        have HX := Lib.hid (fun (x : World) (hx : Below wr.heap.size wr x) => six_cells ((hx.block N (by omega)).trans k2))
        refine wp_region_calm (S := fun x => Below wr.heap.size wr x) 15 (by kernel_rfl) (by kernel_rfl) (Below.refl _ _).drew ?_
        simp only [List.take_succ_cons, List.take_zero, List.drop_succ_cons, List.drop_zero]
        refine calm_value (v := ?va0) (by kernel_rfl) ?m ?_; (case m => (intro x _; go_simp; try with_reducible rfl))
        simp only [Act.put, List.setIfInBounds_toArray, List.set_cons_zero, List.set_cons_succ]
        refine calm_value (v := ?va1) (by kernel_rfl) ?m ?_; (case m => (intro x _; go_simp; try with_reducible rfl))
        simp only [Act.put, List.setIfInBounds_toArray, List.set_cons_zero, List.set_cons_succ]
        refine calm_value (v := ?va2) (by kernel_rfl) ?m ?_; (case m => (intro x _; go_simp; try with_reducible rfl))
        simp only [Act.put, List.setIfInBounds_toArray, List.set_cons_zero, List.set_cons_succ]
        refine calm_value (v := ?va3) (by kernel_rfl) ?m ?_; (case m => (intro x _; go_simp; try with_reducible rfl))
        simp only [Act.put, List.setIfInBounds_toArray, List.set_cons_zero, List.set_cons_succ]
        refine calm_cell 3 _ ⟨(N), 0, none⟩ (.int .i64 l0) (by kernel_rfl) rfl rfl (fun x hx => by have c0 := (HX.out x hx).1.1; go_simp) ?_
        simp only [Act.put, List.setIfInBounds_toArray, List.set_cons_zero, List.set_cons_succ]
        refine calm_value (v := ?va5) (by kernel_rfl) ?m ?_; (case m => (intro x _; go_simp; try with_reducible rfl))
        simp only [Act.put, List.setIfInBounds_toArray, List.set_cons_zero, List.set_cons_succ]
        refine calm_value (v := ?va6) (by kernel_rfl) ?m ?_; (case m => (intro x _; go_simp; try with_reducible rfl))
        simp only [Act.put, List.setIfInBounds_toArray, List.set_cons_zero, List.set_cons_succ]
        refine calm_value (v := ?va7) (by kernel_rfl) ?m ?_; (case m => (intro x _; go_simp; try with_reducible rfl))
        simp only [Act.put, List.setIfInBounds_toArray, List.set_cons_zero, List.set_cons_succ]
        refine calm_cell 3 _ ⟨(N), 2, none⟩ (.int .i64 u0) (by kernel_rfl) rfl rfl (fun x hx => by have c0 := (HX.out x hx).1.2.1; go_simp) ?_
        simp only [Act.put, List.setIfInBounds_toArray, List.set_cons_zero, List.set_cons_succ]
        refine calm_value (v := ?va9) (by kernel_rfl) ?m ?_; (case m => (intro x _; go_simp; try with_reducible rfl))
        simp only [Act.put, List.setIfInBounds_toArray, List.set_cons_zero, List.set_cons_succ]
        refine calm_value (v := ?va10) (by kernel_rfl) ?m ?_; (case m => (intro x _; go_simp; try with_reducible rfl))
        simp only [Act.put, List.setIfInBounds_toArray, List.set_cons_zero, List.set_cons_succ]
        refine calm_value (v := ?va11) (by kernel_rfl) ?m ?_; (case m => (intro x _; go_simp; try with_reducible rfl))
        simp only [Act.put, List.setIfInBounds_toArray, List.set_cons_zero, List.set_cons_succ]
        refine calm_cell 3 _ ⟨(N), 4, none⟩ (.int .i64 r0) (by kernel_rfl) rfl rfl (fun x hx => by have c0 := (HX.out x hx).1.2.2; go_simp) ?_
        simp only [Act.put, List.setIfInBounds_toArray, List.set_cons_zero, List.set_cons_succ]
        refine calm_call (by kernel_rfl) C.out (fun _ => by kernel_rfl) ?_
        simp only [Act.put, List.setIfInBounds_toArray, List.set_cons_zero, List.set_cons_succ]
        refine calm_value (v := ?va14) (by kernel_rfl) ?m ?_; (case m => (intro x _; go_simp; try with_reducible rfl))
        simp only [Act.put, List.setIfInBounds_toArray, List.set_cons_zero, List.set_cons_succ]
        refine calm_nil fun x hx => ?_
        have q1 : x.heap[B + 1]? = some (.cells (twoA 0 0) 24 (0, 0)) := (hx.block (B + 1) (by omega)).trans k1
        have y0 := (two_at q1).1
        have ff : x.frozen? ⟨B + 1, 0, none⟩ = false := part_free (cs := [.int .i64 0, .int .i64 0]) q1
        have PUT := Lib.hid (⟨heap_set ((hx.block B (by omega)).trans k0) (by simp), part_set (o := 0) (cs := [.int .i64 0, .int .i64 0]) (.int .i64 m0) q1, heap_set ((hx.block N (by omega)).trans k2) (by simp; omega), (kb.trans (hx.mono (by omega))).setCell (by simp) _, by simp [World.setCell]; have := hx.size; omega⟩ : (x.setCell ⟨B + 1, 0, none⟩ (.int .i64 m0)).heap[B]? = some zerO ∧ (x.setCell ⟨B + 1, 0, none⟩ (.int .i64 m0)).heap[B + 1]? = some (.cells (twoA m0 0) 24 (0, 0)) ∧ (x.setCell ⟨B + 1, 0, none⟩ (.int .i64 m0)).heap[N]? = some (.cells (sixA (l0, l1) (u0, u1) (r0, r1)) 28 (0, 0)) ∧ Below B w (x.setCell ⟨B + 1, 0, none⟩ (.int .i64 m0)) ∧ N + 1 ≤ (x.setCell ⟨B + 1, 0, none⟩ (.int .i64 m0)).heap.size)
        clear q1
        go_wp2
        go_roundw
        case rel => exact ⟨1, by omega, rfl, PUT.out⟩
        case measure => simp [intOf]
      · go_wp2
        have C := Lib.hid (fun (x : World) (hx : Below wr.heap.size wr x) => (C1.out x).mono fun e y h => (⟨h.1, h.2 ▸ hx⟩ : e = .returned (.int .i64 m1) ∧ Below wr.heap.size wr y))
        have HX := Lib.hid (fun (x : World) (hx : Below wr.heap.size wr x) => six_cells ((hx.block N (by omega)).trans k2))
        refine wp_region_calm (S := fun x => Below wr.heap.size wr x) 15 (by kernel_rfl) (by kernel_rfl) (Below.refl _ _).drew ?_
        simp only [List.take_succ_cons, List.take_zero, List.drop_succ_cons, List.drop_zero]
        refine calm_value (v := ?vb0) (by kernel_rfl) ?m ?_; (case m => (intro x _; go_simp; try with_reducible rfl))
        simp only [Act.put, List.setIfInBounds_toArray, List.set_cons_zero, List.set_cons_succ]
        refine calm_value (v := ?vb1) (by kernel_rfl) ?m ?_; (case m => (intro x _; go_simp; try with_reducible rfl))
        simp only [Act.put, List.setIfInBounds_toArray, List.set_cons_zero, List.set_cons_succ]
        refine calm_value (v := ?vb2) (by kernel_rfl) ?m ?_; (case m => (intro x _; go_simp; try with_reducible rfl))
        simp only [Act.put, List.setIfInBounds_toArray, List.set_cons_zero, List.set_cons_succ]
        refine calm_value (v := ?vb3) (by kernel_rfl) ?m ?_; (case m => (intro x _; go_simp; try with_reducible rfl))
        simp only [Act.put, List.setIfInBounds_toArray, List.set_cons_zero, List.set_cons_succ]
        refine calm_cell 3 _ ⟨(N), 1, none⟩ (.int .i64 l1) (by kernel_rfl) rfl rfl (fun x hx => by have c0 := (HX.out x hx).2.1; go_simp) ?_
        simp only [Act.put, List.setIfInBounds_toArray, List.set_cons_zero, List.set_cons_succ]
        refine calm_value (v := ?vb5) (by kernel_rfl) ?m ?_; (case m => (intro x _; go_simp; try with_reducible rfl))
        simp only [Act.put, List.setIfInBounds_toArray, List.set_cons_zero, List.set_cons_succ]
        refine calm_value (v := ?vb6) (by kernel_rfl) ?m ?_; (case m => (intro x _; go_simp; try with_reducible rfl))
        simp only [Act.put, List.setIfInBounds_toArray, List.set_cons_zero, List.set_cons_succ]
        refine calm_value (v := ?vb7) (by kernel_rfl) ?m ?_; (case m => (intro x _; go_simp; try with_reducible rfl))
        simp only [Act.put, List.setIfInBounds_toArray, List.set_cons_zero, List.set_cons_succ]
        refine calm_cell 3 _ ⟨(N), 3, none⟩ (.int .i64 u1) (by kernel_rfl) rfl rfl (fun x hx => by have c0 := (HX.out x hx).2.2.1; go_simp) ?_
        simp only [Act.put, List.setIfInBounds_toArray, List.set_cons_zero, List.set_cons_succ]
        refine calm_value (v := ?vb9) (by kernel_rfl) ?m ?_; (case m => (intro x _; go_simp; try with_reducible rfl))
        simp only [Act.put, List.setIfInBounds_toArray, List.set_cons_zero, List.set_cons_succ]
        refine calm_value (v := ?vb10) (by kernel_rfl) ?m ?_; (case m => (intro x _; go_simp; try with_reducible rfl))
        simp only [Act.put, List.setIfInBounds_toArray, List.set_cons_zero, List.set_cons_succ]
        refine calm_value (v := ?vb11) (by kernel_rfl) ?m ?_; (case m => (intro x _; go_simp; try with_reducible rfl))
        simp only [Act.put, List.setIfInBounds_toArray, List.set_cons_zero, List.set_cons_succ]
        refine calm_cell 3 _ ⟨(N), 5, none⟩ (.int .i64 r1) (by kernel_rfl) rfl rfl (fun x hx => by have c0 := (HX.out x hx).2.2.2; go_simp) ?_
        simp only [Act.put, List.setIfInBounds_toArray, List.set_cons_zero, List.set_cons_succ]
        refine calm_call (by kernel_rfl) C.out (fun _ => by kernel_rfl) ?_
        simp only [Act.put, List.setIfInBounds_toArray, List.set_cons_zero, List.set_cons_succ]
        refine calm_value (v := ?vb14) (by kernel_rfl) ?m ?_; (case m => (intro x _; go_simp; try with_reducible rfl))
        simp only [Act.put, List.setIfInBounds_toArray, List.set_cons_zero, List.set_cons_succ]
        refine calm_nil fun x hx => ?_
        have q1 : x.heap[B + 1]? = some (.cells (twoA m0 0) 24 (0, 0)) := (hx.block (B + 1) (by omega)).trans k1
        have y1 := (two_at q1).2
        have ff : x.frozen? ⟨B + 1, 1, none⟩ = false := part_free (cs := [.int .i64 m0, .int .i64 0]) q1
        have PUT := Lib.hid (⟨heap_set ((hx.block B (by omega)).trans k0) (by simp), part_set (o := 1) (cs := [.int .i64 m0, .int .i64 0]) (.int .i64 m1) q1, heap_set ((hx.block N (by omega)).trans k2) (by simp; omega), (kb.trans (hx.mono (by omega))).setCell (by simp) _, by simp [World.setCell]; have := hx.size; omega⟩ : (x.setCell ⟨B + 1, 1, none⟩ (.int .i64 m1)).heap[B]? = some zerO ∧ (x.setCell ⟨B + 1, 1, none⟩ (.int .i64 m1)).heap[B + 1]? = some (.cells (twoA m0 m1) 24 (0, 0)) ∧ (x.setCell ⟨B + 1, 1, none⟩ (.int .i64 m1)).heap[N]? = some (.cells (sixA (l0, l1) (u0, u1) (r0, r1)) 28 (0, 0)) ∧ Below B w (x.setCell ⟨B + 1, 1, none⟩ (.int .i64 m1)) ∧ N + 1 ≤ (x.setCell ⟨B + 1, 1, none⟩ (.int .i64 m1)).heap.size)
        clear q1
        go_wp2
        go_roundw
        case rel => exact ⟨2, by omega, rfl, PUT.out⟩
        case measure => simp [intOf]
      · obtain ⟨y0, y1⟩ := two_at (a := m0) (b := m1) k1
        unfold zerO at k0
        have g1 : (Try.prog.info? 24).map (·.size) = some (#[.int .i64 m0, .int .i64 m1] : Array Value).size := two_size
        have g2 : (#[.int .i64 0, .int .i64 0] : Array Value).size = (#[.int .i64 m0, .int .i64 m1] : Array Value).size := rfl
        have g3 : (#[.int .i64 m0, .int .i64 m1] : Array Value).all (·.oneCell') = true := two_one m0 m1
        go_wp2_with (with_reducible refine wp_store_arr rfl 24 _ _ rfl B #[.int .i64 m0, .int .i64 m1] #[.int .i64 0, .int .i64 0] rfl rfl 24 k0 g1 g2 g3 ?_; intro w3 hh3 hg3)
        refine bodyPost_ret (results_cell_row rfl _ _ B 24 _ (0, 0) _ rfl hh3 Try.underlying24 rfl (by kernel_rfl)) rfl ?_
        exact ⟨by rw [HM.out]; rfl, by rw [HB.out]; exact kb.grown hg3 (by omega) (fun k hk => by injection hk with hk; omega)⟩
end Go.Proofs.Ytknmhemajmiboaa
