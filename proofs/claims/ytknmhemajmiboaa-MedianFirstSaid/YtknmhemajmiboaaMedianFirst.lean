/- In a first line the vector that is foretold is the one to the left; where all around are one, it is that one. Conditions: none but the law's own (up to 500 vectors). -/
import Derived.Test.YtknmhemajmiboaaRows
import Derived.Test.YtknmhemajmiboaaMlive
import Derived.Test.YtknmhemajmiboaaTwos
import Derived.Test.YtknmhemajmiboaaLaws
import Derived.ProofKit
namespace Go.Proofs.Ytknmhemajmiboaa
open Go.ChangeShapes Go.WideShapes Go.ChangeAt Go.RowKit

theorem middle_same (a : Int) : middle a a a = a := by unfold middle; omega
theorem med_first (f : Nat → Int × Int) (n A : Nat) (h : 1 ≤ A) : medV f n (A : Int) ((n / A : Nat) : Int) = lefV f n A := by
  have hu : upV n A ((n / A : Nat) : Int) = false := by unfold upV; rw [decide_eq_false (show ¬ ((n / A : Nat) : Int) < ((n / A : Nat) : Int) by omega), Bool.and_false]
  unfold medV aboV rigV
  rw [if_neg (by omega), Int.toNat_natCast, hu]
  simp only [Bool.false_eq_true, if_false, middle_same]
theorem med_same (v : Int × Int) (n A : Nat) (first : Int) (h : 1 ≤ A) (h0 : 0 < n % A) (h1 : n % A < A - 1) : medV (fun _ => v) n (A : Int) first = v := by
  have e1 : lefV (fun _ => v) n A = v := by unfold lefV; rw [if_pos h0]
  have e2 : aboV (fun _ => v) n A first = v := by unfold aboV; rw [e1]; split <;> rfl
  have e3 : rigV (fun _ => v) n A first = v := by unfold rigV; rw [e1, if_pos h1]; split <;> rfl
  unfold medV
  rw [if_neg (by omega), Int.toNat_natCast, e1, e2, e3, middle_same, middle_same]
theorem and_31 (n : Int) : bits .and .i64 n 31 = n % 32 := and_low n 5 (by omega)
set_option maxHeartbeats 8000000 in
theorem medianFirst_walk (p : Option Addr) (n cap : Nat) (a b s t : Int) (w : World) (ha : RowsAt w TwoInts 2 p n) (hn : n ≤ maxLen) (_ : (Lit.int .i64 a).wf = true) (_ : (Lit.int .i64 b).wf = true) (_ : (Lit.int .i64 s).wf = true) (_ : (Lit.int .i64 t).wf = true) :
    Calls Try.prog 4 #[.slice p n cap, .agg #[.int .i64 a, .int .i64 b], .agg #[.int .i64 s, .int .i64 t]] w fun e w' => e = .returned (.bool true) ∧ Below w.heap.size w w' := by
  obtain ⟨f, hv, _⟩ := vecs_of_rows ha
  have hn' := hn
  unfold maxLen at hn'
  obtain ⟨B, hB⟩ : ∃ B, w.heap.size = B := ⟨_, rfl⟩
  obtain ⟨wA, hwA⟩ : ∃ wA, (w.alloc (.cells (twoA a b) 24 (0, 0))).alloc (.cells (twoA s t) 24 (0, 0)) = wA := ⟨_, rfl⟩
  have T0 : wA.heap[B]? = some (.cells (twoA a b) 24 (0, 0)) := by rw [← hwA, ← hB]; exact heap_keep (heap_alloc_new w _)
  have T1 : wA.heap[B + 1]? = some (.cells (twoA s t) 24 (0, 0)) := by rw [← hwA, ← hB]; simpa using heap_alloc_new (w.alloc _) _
  have TB : Below B w wA := by rw [← hwA, ← hB]; exact ((Below.refl _ w).alloc (Nat.le_refl _) _).alloc (by simp) _
  have TZ : wA.heap.size = B + 2 := by rw [← hwA, ← hB]; simp
  obtain ⟨c0, c1⟩ := two_at T0
  have HW := Lib.hid hwA
  have HB := Lib.hid hB
  unfold twoA at HW
  have hand := and_31 a
  obtain ⟨m, hm⟩ : ∃ m : Nat, a % 32 = (m : Int) := ⟨(a % 32).toNat, by omega⟩
  have hm32 : m < 32 := by omega
  rw [hm] at hand
  by_cases hl : 500 < n
  · have t0 : decide ((500 : Int) < (n : Int)) = true := decide_eq_true (by omega)
    clear hm32 hm T0 T1 ha hv hB hwA
    go_enter Try.func4, Try.ntmps4
    go_wp2_with fail
    rw [HW.out, HB.out]
    go_wp2_with (with_reducible refine (lives19 _).mono ?_; rintro e w1 ⟨rfl, hb⟩)
    go_ret
    exact ⟨rfl, by rw [HB.out]; exact TB.trans (hb.mono (by omega))⟩
  have t0 : decide ((500 : Int) < (n : Int)) = false := decide_eq_false (by omega)
  obtain ⟨A, hA⟩ : ∃ A : Nat, 1 + m = A := ⟨_, rfl⟩
  have hmA : 1 + (m : Int) = (A : Int) := by omega
  have hA1 : 1 ≤ A := by omega
  have hA2 : A ≤ 32 := by omega
  obtain ⟨-, -, m3, m4, -, m6⟩ := med_nums (n := n) hA1
  have z0 : ((A : Int) == 0) = false := by simp; omega
  have wA1 : IntKind.i64.wrap ((A : Int) - 1) = (A : Int) - 1 := wrapN (by omega)
  have e1 : (n : Int) % (A : Int) = ((n % A : Nat) : Int) := rfl
  have e2 : (n : Int) / (A : Int) = ((n / A : Nat) : Int) := rfl
  have wd : IntKind.i64.wrap ((n / A : Nat) : Int) = ((n / A : Nat) : Int) := wrapNat (by omega)
  have C1 := fun x (hx : Below w.heap.size w x) => medof_code f p n cap (A : Int) ((n / A : Nat) : Int) x (hv.mono hx) hn (by omega)
  rw [med_first f n A hA1] at C1
  have hL : lefV f n A = if 0 < n % A then f (n - 1) else (0, 0) := rfl
  obtain ⟨L, hLL⟩ : ∃ L, lefV f n A = L := ⟨_, rfl⟩
  rw [hLL] at C1 hL
  obtain ⟨wL, hwL⟩ : ∃ wL, wA.alloc (.cells (twoA L.1 L.2) 24 (0, 0)) = wL := ⟨_, rfl⟩
  have g0 : wL.heap[B]? = some (.cells (twoA a b) 24 (0, 0)) := by rw [← hwL]; exact heap_keep T0
  have g1 : wL.heap[B + 1]? = some (.cells (twoA s t) 24 (0, 0)) := by rw [← hwL]; exact heap_keep T1
  have g2 : wL.heap[B + 2]? = some (.cells (twoA L.1 L.2) 24 (0, 0)) := by rw [← hwL, ← TZ]; exact heap_alloc_new wA _
  have gB : Below B w wL := by rw [← hwL]; exact TB.alloc (by omega) _
  have gz : wL.heap.size = B + 3 := by rw [← hwL]; simp [TZ]
  have CS : ∀ (first : Int) (q : Option Addr) (k : Nat) (x' : World), 0 < n % A → n % A < A - 1 → VecsAt x' q n (fun _ => (s, t)) → Calls Try.prog 6 #[.slice q n k, .int .i64 (A : Int), .int .i64 first] x' (TwoGives (s, t) x') := by
    intro first q k x' h0 h1 hV
    have h := medof_code (fun _ => (s, t)) q n k (A : Int) first x' hV hn (by omega)
    rw [med_same (s, t) n A first hA1 h0 h1] at h
    exact h
  have CS := Lib.hid CS
  obtain ⟨ii, hi, iz0, iz1, iz2⟩ := info_vec
  have E := two_equal_self L
  have E2 := two_equal_self (s, t)
  rw [← HB.out] at gB
  have C1 := Lib.hid (fun x' (hx : Below (B + 3) wL x') => (C1 x' (gB.trans (hx.mono (by rw [HB.out]; omega)))).mono fun e z h => (⟨h.1, hx.trans (h.2.mono (by have := hx.size; omega))⟩ : e = .returned (.agg #[.int .i64 L.1, .int .i64 L.2]) ∧ Below (B + 3) wL z))
  rw [HB.out] at gB
  have HX := Lib.hid (fun (x' : World) (hx : Below (B + 3) wL x') => (⟨(hx.block B (by omega)).trans g0, (hx.block (B + 1) (by omega)).trans g1, (hx.block (B + 2) (by omega)).trans g2⟩ : x'.heap[B]? = some (.cells (twoA a b) 24 (0, 0)) ∧ x'.heap[B + 1]? = some (.cells #[.int .i64 s, .int .i64 t] 24 (0, 0)) ∧ x'.heap[B + 1 + 1]? = some (.cells #[.int .i64 L.1, .int .i64 L.2] 24 (0, 0))))
  have HX2 := Lib.hid (fun (x' : World) (hx : Below (B + 3) wL x') => (HX.out x' hx).2.2)
  have HX0 := Lib.hid (fun (x' : World) (hx : Below (B + 3) wL x') => (HX.out x' hx).1)
  have HX1 := Lib.hid (fun (x' : World) (hx : Below (B + 3) wL x') => (HX.out x' hx).2.1)
  have HWL := Lib.hid hwL
  unfold twoA at HWL
  rw [← HW.out] at HWL
  have hr0 := vecs_hold hv
  have KT := Lib.hid (fun o1 o2 o3 => ((((Below.refl _ w).alloc (Nat.le_refl _) o1).alloc (by simp) o2).alloc (by simp; omega) o3 : Below w.heap.size w (((w.alloc o1).alloc o2).alloc o3)))
  have HS2 : (Try.prog.info? 24).map (·.size) = some (#[.int .i64 L.1, .int .i64 L.2] : Array Value).size := two_size
  have HSv : (Try.prog.info? 24).map (·.size) = some (#[.int .i64 s, .int .i64 t] : Array Value).size := two_size
  have hn5 : n ≤ 500 := by omega
  clear g0 g1 g2 T0 T1 TB TZ hwL hLL ha hv hB hwA hm hA hm32 c0 c1 HW hl hn
  generalize n / A = q at *
  obtain ⟨c, hc⟩ : ∃ c, n % A = c := ⟨_, rfl⟩
  rw [hc] at e1 m3 m4 hL CS
  clear hc
  by_cases h0 : 0 < c
  · have t1 : decide (0 < c) = true := decide_eq_true h0
    have m7 := m4 h0
    obtain ⟨k, hk⟩ : ∃ k, n - 1 = k := ⟨_, rfl⟩
    have hkn : k < n := by omega
    have nk : (n : Int) - 1 = (k : Int) := by omega
    rw [if_pos h0, hk] at hL
    obtain ⟨bb, oo, rfl, hr⟩ := hr0 (by omega)
    obtain ⟨c0, c1⟩ := hr _ (KT.out (.cells #[.int .i64 a, .int .i64 b] 24 (0, 0)) (.cells #[.int .i64 s, .int .i64 t] 24 (0, 0)) (.cells #[.int .i64 0, .int .i64 0] 24 (0, 0))) k hkn
    rw [← hL] at c0 c1
    clear hr hk hr0 hL
    clear KT
    go_enter Try.func4, Try.ntmps4
    go_wp2_with fail
    rw [HWL.out, HB.out]
    refine wp_region_calm (S := fun x => Below (B + 3) wL x) 6 (by kernel_rfl) (by kernel_rfl) (Below.refl _ _).drew ?_
    simp only [List.take_succ_cons, List.take_zero, List.drop_succ_cons, List.drop_zero]
    refine calm_value (v := ?vn0) (by kernel_rfl) ?m ?_; (case m => (intro x _; go_simp; try with_reducible rfl))
    simp only [Act.put, List.setIfInBounds_toArray, List.set_cons_zero, List.set_cons_succ]
    refine calm_value (v := ?vn1) (by kernel_rfl) ?m ?_; (case m => (intro x _; go_simp; try with_reducible rfl))
    simp only [Act.put, List.setIfInBounds_toArray, List.set_cons_zero, List.set_cons_succ]
    refine calm_value (v := ?vn2) (by kernel_rfl) ?m ?_; (case m => (intro x _; go_simp; try with_reducible rfl))
    simp only [Act.put, List.setIfInBounds_toArray, List.set_cons_zero, List.set_cons_succ]
    refine calm_call (by kernel_rfl) C1.out (fun _ => by kernel_rfl) ?_
    simp only [Act.put, List.setIfInBounds_toArray, List.set_cons_zero, List.set_cons_succ]
    refine calm_load 24 _ (B + 1 + 1) 24 #[.int .i64 L.1, .int .i64 L.2] (0, 0) _ (by kernel_rfl) rfl rfl (fun x hx => HX2.out x hx) Try.underlying24 rfl HS2 ?_
    simp only [Act.put, List.setIfInBounds_toArray, List.set_cons_zero, List.set_cons_succ]
    refine calm_value (v := ?vn5) (by kernel_rfl) ?m ?_; (case m => (intro x _; go_simp; try with_reducible rfl))
    simp only [Act.put, List.setIfInBounds_toArray, List.set_cons_zero, List.set_cons_succ]
    refine calm_nil fun x hx => ?_
    skip
    go_wp2_with fail
    have gz0 := hx.size
    clear HX HX2 HS2 HWL C1 E
    go_loopw [10, 11] (fun v i wr => ∃ j : Nat, j ≤ n ∧ i = .int .i64 j ∧ wr.ownsRow (B + 3) 24 2 v j (vecC (List.replicate j (s, t))) ∧ Below (B + 3) wL wr) (fun _ i _ => n - (intOf i).toNat)
    case atStart => exact ⟨0, Nat.zero_le _, rfl, World.ownsRow_nil _ _ _ _, hx⟩
    case round =>
      obtain ⟨j, hj, rfl, hown, hb⟩ := hrel
      have hz := hb.size
      by_cases hlt : j < n
      · have t2 : decide ((j : Int) < (n : Int)) = true := decide_eq_true (by omega)
        obtain ⟨d0, d1⟩ := two_at (a := s) (b := t) (HX1.out wr hb)
        have VS := Lib.hid (show vecC (List.replicate (j + 1) (s, t)) = vecC (List.replicate j (s, t)) ++ [.int .i64 s, .int .i64 t] by rw [List.replicate_succ', vecC_snoc])
        go_wp2_with (at_builtin; refine wp_append_vec (y0 := s) (y1 := t) rfl rfl Try.underlying22 hi iz0 rfl iz1 iz2 rfl (hown.alloc _) rfl ?c1 ?c2 ?c3 ?c4 ?_; (case c1 => go_cell); (case c2 => go_cell); (case c3 => omega); (case c4 => (simp; omega)); intro v1 w1 hown3 hgrow)
        go_roundw
        case rel => exact ⟨j + 1, by omega, by go_num, by rw [VS.out]; exact hown3, (hb.alloc (by omega) _).grown hgrow (by simp; omega) (owns_fresh hown)⟩
        case measure => simp [intOf]; omega
      · obtain rfl : n = j := by omega
        have t2 : decide ((n : Int) < (n : Int)) = false := decide_eq_false (by omega)
        obtain ⟨qq, cap2, rfl, hV0⟩ := vecs_own (l := List.replicate n (s, t)) List.length_replicate hown
        have hV : VecsAt wr qq n (fun _ => (s, t)) := hV0.congr fun i hi => by simp [List.getD, hi]
        have D2 := Lib.hid (HX1.out wr hb)
        have D0 := Lib.hid (HX0.out wr hb)
        have DB : Below B w wr := gB.trans (hb.mono (by omega))
        clear hown hV0 hi iz0 iz1 iz2 gB
        have CL := Lib.hid (fun (x' : World) (hx' : Below wr.heap.size wr x') => (lives19 x').mono fun e z h => (⟨h.1, hx'.trans (h.2.mono hx'.size)⟩ : e = .returned (.bool true) ∧ Below wr.heap.size wr z))
        have HE := Lib.hid (fun (x' : World) (hx' : Below wr.heap.size wr x') => (by rw [HB.out]; exact DB.trans (hx'.mono (by omega)) : Below w.heap.size w x'))
        have g3 : ¬ c = 0 := by omega
        have tc : ((c : Int) == 0) = false := by simpa using g3
        by_cases g4 : c = A - 1
        · have td : ((c : Int) == (A : Int) - 1) = true := by simp; omega
          clear g3 g4
          go_wp2_with fail
          rw [e1]
          clear CS C1
          refine wp_region_calm (S := fun x => Below wr.heap.size wr x) 21 (by kernel_rfl) (by kernel_rfl) (Below.refl _ _).drew ?_
          simp only [List.take_succ_cons, List.take_zero, List.drop_succ_cons, List.drop_zero]
          refine calm_value (v := ?vq0) (by kernel_rfl) ?m ?_; (case m => (intro x _; go_simp; try with_reducible rfl))
          simp only [Act.put, List.setIfInBounds_toArray, List.set_cons_zero, List.set_cons_succ]
          refine calm_value (v := ?vq1) (by kernel_rfl) ?m ?_; (case m => (intro x _; go_simp; try with_reducible rfl))
          simp only [Act.put, List.setIfInBounds_toArray, List.set_cons_zero, List.set_cons_succ]
          refine calm_value (v := ?vq2) (by kernel_rfl) ?m ?_; (case m => (intro x _; go_simp; try with_reducible rfl))
          simp only [Act.put, List.setIfInBounds_toArray, List.set_cons_zero, List.set_cons_succ]
          refine calm_value (v := ?vq3) (by kernel_rfl) ?m ?_; (case m => (intro x _; go_simp; try with_reducible rfl))
          simp only [Act.put, List.setIfInBounds_toArray, List.set_cons_zero, List.set_cons_succ]
          refine calm_value (v := ?vq4) (by kernel_rfl) ?m ?_; (case m => (intro x _; go_simp; try with_reducible rfl))
          simp only [Act.put, List.setIfInBounds_toArray, List.set_cons_zero, List.set_cons_succ]
          refine calm_value (v := ?vq5) (by kernel_rfl) ?m ?_; (case m => (intro x _; go_simp; try with_reducible rfl))
          simp only [Act.put, List.setIfInBounds_toArray, List.set_cons_zero, List.set_cons_succ]
          refine calm_value (v := ?vq6) (by kernel_rfl) ?m ?_; (case m => (intro x _; go_simp; try with_reducible rfl))
          simp only [Act.put, List.setIfInBounds_toArray, List.set_cons_zero, List.set_cons_succ]
          refine calm_value (v := ?vq7) (by kernel_rfl) ?m ?_; (case m => (intro x _; go_simp; try with_reducible rfl))
          simp only [Act.put, List.setIfInBounds_toArray, List.set_cons_zero, List.set_cons_succ]
          refine calm_value (v := ?vq8) (by kernel_rfl) ?m ?_; (case m => (intro x _; go_simp; try with_reducible rfl))
          simp only [Act.put, List.setIfInBounds_toArray, List.set_cons_zero, List.set_cons_succ]
          refine calm_not (by kernel_rfl) ?_
          simp only [Act.put, List.setIfInBounds_toArray, List.set_cons_zero, List.set_cons_succ]
          refine calm_not (by kernel_rfl) ?_
          simp only [Act.put, List.setIfInBounds_toArray, List.set_cons_zero, List.set_cons_succ]
          refine calm_not (by kernel_rfl) ?_
          simp only [Act.put, List.setIfInBounds_toArray, List.set_cons_zero, List.set_cons_succ]
          refine calm_not (by kernel_rfl) ?_
          simp only [Act.put, List.setIfInBounds_toArray, List.set_cons_zero, List.set_cons_succ]
          refine calm_not (by kernel_rfl) ?_
          simp only [Act.put, List.setIfInBounds_toArray, List.set_cons_zero, List.set_cons_succ]
          refine calm_not (by kernel_rfl) ?_
          simp only [Act.put, List.setIfInBounds_toArray, List.set_cons_zero, List.set_cons_succ]
          refine calm_not (by kernel_rfl) ?_
          simp only [Act.put, List.setIfInBounds_toArray, List.set_cons_zero, List.set_cons_succ]
          refine calm_value (v := ?vq16) (by kernel_rfl) ?m ?_; (case m => (intro x _; go_simp; try with_reducible rfl))
          simp only [Act.put, List.setIfInBounds_toArray, List.set_cons_zero, List.set_cons_succ]
          refine calm_value (v := ?vq17) (by kernel_rfl) ?m ?_; (case m => (intro x _; go_simp; try with_reducible rfl))
          simp only [Act.put, List.setIfInBounds_toArray, List.set_cons_zero, List.set_cons_succ]
          refine calm_call (by kernel_rfl) CL.out (fun _ => by kernel_rfl) ?_
          simp only [Act.put, List.setIfInBounds_toArray, List.set_cons_zero, List.set_cons_succ]
          refine calm_value (v := ?vq19) (by kernel_rfl) ?m ?_; (case m => (intro x _; go_simp; try with_reducible rfl))
          simp only [Act.put, List.setIfInBounds_toArray, List.set_cons_zero, List.set_cons_succ]
          refine calm_value (v := ?vq20) (by kernel_rfl) ?m ?_; (case m => (intro x _; go_simp; try with_reducible rfl))
          simp only [Act.put, List.setIfInBounds_toArray, List.set_cons_zero, List.set_cons_succ]
          refine calm_nil fun x' hx' => ?_
          go_wp2
          go_ret
          exact ⟨rfl, HE.out _ hx'⟩
        · have td : ((c : Int) == (A : Int) - 1) = false := by simp; omega
          have CV := Lib.hid (fun (x' : World) (hx' : Below wr.heap.size wr x') => (CS.out b qq cap2 x' (by omega) (by omega) (hV.mono hx')).mono fun e z h => (⟨h.1, hx'.trans (h.2.mono hx'.size)⟩ : e = .returned (.agg #[.int .i64 s, .int .i64 t]) ∧ Below wr.heap.size wr z))
          have HV1 := Lib.hid (fun (x' : World) (hx' : Below wr.heap.size wr x') => (hx'.block (B + 1) (by omega)).trans D2.out)
          have HV0 := Lib.hid (fun (x' : World) (hx' : Below wr.heap.size wr x') => (two_at (a := a) (b := b) ((hx'.block B (by omega)).trans D0.out)).2)
          clear g3 g4
          go_wp2_with fail
          rw [e1]
          clear CS C1
          refine wp_region_calm (S := fun x => Below wr.heap.size wr x) 21 (by kernel_rfl) (by kernel_rfl) (Below.refl _ _).drew ?_
          simp only [List.take_succ_cons, List.take_zero, List.drop_succ_cons, List.drop_zero]
          refine calm_value (v := ?vr0) (by kernel_rfl) ?m ?_; (case m => (intro x _; go_simp; try with_reducible rfl))
          simp only [Act.put, List.setIfInBounds_toArray, List.set_cons_zero, List.set_cons_succ]
          refine calm_value (v := ?vr1) (by kernel_rfl) ?m ?_; (case m => (intro x _; go_simp; try with_reducible rfl))
          simp only [Act.put, List.setIfInBounds_toArray, List.set_cons_zero, List.set_cons_succ]
          refine calm_value (v := ?vr2) (by kernel_rfl) ?m ?_; (case m => (intro x _; go_simp; try with_reducible rfl))
          simp only [Act.put, List.setIfInBounds_toArray, List.set_cons_zero, List.set_cons_succ]
          refine calm_value (v := ?vr3) (by kernel_rfl) ?m ?_; (case m => (intro x _; go_simp; try with_reducible rfl))
          simp only [Act.put, List.setIfInBounds_toArray, List.set_cons_zero, List.set_cons_succ]
          refine calm_value (v := ?vr4) (by kernel_rfl) ?m ?_; (case m => (intro x _; go_simp; try with_reducible rfl))
          simp only [Act.put, List.setIfInBounds_toArray, List.set_cons_zero, List.set_cons_succ]
          refine calm_value (v := ?vr5) (by kernel_rfl) ?m ?_; (case m => (intro x _; go_simp; try with_reducible rfl))
          simp only [Act.put, List.setIfInBounds_toArray, List.set_cons_zero, List.set_cons_succ]
          refine calm_value (v := ?vr6) (by kernel_rfl) ?m ?_; (case m => (intro x _; go_simp; try with_reducible rfl))
          simp only [Act.put, List.setIfInBounds_toArray, List.set_cons_zero, List.set_cons_succ]
          refine calm_value (v := ?vr7) (by kernel_rfl) ?m ?_; (case m => (intro x _; go_simp; try with_reducible rfl))
          simp only [Act.put, List.setIfInBounds_toArray, List.set_cons_zero, List.set_cons_succ]
          refine calm_value (v := ?vr8) (by kernel_rfl) ?m ?_; (case m => (intro x _; go_simp; try with_reducible rfl))
          simp only [Act.put, List.setIfInBounds_toArray, List.set_cons_zero, List.set_cons_succ]
          refine calm_value (v := ?vr9) (by kernel_rfl) ?m ?_; (case m => (intro x _; go_simp; try with_reducible rfl))
          simp only [Act.put, List.setIfInBounds_toArray, List.set_cons_zero, List.set_cons_succ]
          refine calm_value (v := ?vr10) (by kernel_rfl) ?m ?_; (case m => (intro x _; go_simp; try with_reducible rfl))
          simp only [Act.put, List.setIfInBounds_toArray, List.set_cons_zero, List.set_cons_succ]
          refine calm_value (v := ?vr11) (by kernel_rfl) ?m ?_; (case m => (intro x _; go_simp; try with_reducible rfl))
          simp only [Act.put, List.setIfInBounds_toArray, List.set_cons_zero, List.set_cons_succ]
          refine calm_cell 3 _ ⟨(B), 1, none⟩ (.int .i64 b) (by kernel_rfl) rfl rfl (fun x hx => by have c0 := HV0.out x hx; go_simp) ?_
          simp only [Act.put, List.setIfInBounds_toArray, List.set_cons_zero, List.set_cons_succ]
          refine calm_call (by kernel_rfl) CV.out (fun _ => by kernel_rfl) ?_
          simp only [Act.put, List.setIfInBounds_toArray, List.set_cons_zero, List.set_cons_succ]
          refine calm_load 24 _ (B + 1) 24 #[.int .i64 s, .int .i64 t] (0, 0) _ (by kernel_rfl) rfl rfl (fun x hx => HV1.out x hx) Try.underlying24 rfl HSv ?_
          simp only [Act.put, List.setIfInBounds_toArray, List.set_cons_zero, List.set_cons_succ]
          refine calm_value (v := ?vr15) (by kernel_rfl) ?m ?_; (case m => (intro x _; go_simp; try with_reducible rfl))
          simp only [Act.put, List.setIfInBounds_toArray, List.set_cons_zero, List.set_cons_succ]
          refine calm_value (v := ?vr16) (by kernel_rfl) ?m ?_; (case m => (intro x _; go_simp; try with_reducible rfl))
          simp only [Act.put, List.setIfInBounds_toArray, List.set_cons_zero, List.set_cons_succ]
          refine calm_value (v := ?vr17) (by kernel_rfl) ?m ?_; (case m => (intro x _; go_simp; try with_reducible rfl))
          simp only [Act.put, List.setIfInBounds_toArray, List.set_cons_zero, List.set_cons_succ]
          refine calm_call (by kernel_rfl) CL.out (fun _ => by kernel_rfl) ?_
          simp only [Act.put, List.setIfInBounds_toArray, List.set_cons_zero, List.set_cons_succ]
          refine calm_value (v := ?vr19) (by kernel_rfl) ?m ?_; (case m => (intro x _; go_simp; try with_reducible rfl))
          simp only [Act.put, List.setIfInBounds_toArray, List.set_cons_zero, List.set_cons_succ]
          refine calm_value (v := ?vr20) (by kernel_rfl) ?m ?_; (case m => (intro x _; go_simp; try with_reducible rfl))
          simp only [Act.put, List.setIfInBounds_toArray, List.set_cons_zero, List.set_cons_succ]
          refine calm_nil fun x' hx' => ?_
          go_wp2
          go_ret
          exact ⟨rfl, HE.out _ hx'⟩
  · have t1 : decide (0 < c) = false := decide_eq_false h0
    rw [if_neg h0] at hL
    subst hL
    clear hr0
    clear KT
    go_enter Try.func4, Try.ntmps4
    go_wp2_with fail
    rw [HWL.out, HB.out]
    refine wp_region_calm (S := fun x => Below (B + 3) wL x) 6 (by kernel_rfl) (by kernel_rfl) (Below.refl _ _).drew ?_
    simp only [List.take_succ_cons, List.take_zero, List.drop_succ_cons, List.drop_zero]
    refine calm_value (v := ?vm0) (by kernel_rfl) ?m ?_; (case m => (intro x _; go_simp; try with_reducible rfl))
    simp only [Act.put, List.setIfInBounds_toArray, List.set_cons_zero, List.set_cons_succ]
    refine calm_value (v := ?vm1) (by kernel_rfl) ?m ?_; (case m => (intro x _; go_simp; try with_reducible rfl))
    simp only [Act.put, List.setIfInBounds_toArray, List.set_cons_zero, List.set_cons_succ]
    refine calm_value (v := ?vm2) (by kernel_rfl) ?m ?_; (case m => (intro x _; go_simp; try with_reducible rfl))
    simp only [Act.put, List.setIfInBounds_toArray, List.set_cons_zero, List.set_cons_succ]
    refine calm_call (by kernel_rfl) C1.out (fun _ => by kernel_rfl) ?_
    simp only [Act.put, List.setIfInBounds_toArray, List.set_cons_zero, List.set_cons_succ]
    refine calm_load 24 _ (B + 1 + 1) 24 #[.int .i64 0, .int .i64 0] (0, 0) _ (by kernel_rfl) rfl rfl (fun x hx => HX2.out x hx) Try.underlying24 rfl HS2 ?_
    simp only [Act.put, List.setIfInBounds_toArray, List.set_cons_zero, List.set_cons_succ]
    refine calm_value (v := ?vm5) (by kernel_rfl) ?m ?_; (case m => (intro x _; go_simp; try with_reducible rfl))
    simp only [Act.put, List.setIfInBounds_toArray, List.set_cons_zero, List.set_cons_succ]
    refine calm_nil fun x hx => ?_
    skip
    go_wp2_with fail
    have gz0 := hx.size
    clear HX HX2 HS2 HWL C1 E
    go_loopw [10, 11] (fun v i wr => ∃ j : Nat, j ≤ n ∧ i = .int .i64 j ∧ wr.ownsRow (B + 3) 24 2 v j (vecC (List.replicate j (s, t))) ∧ Below (B + 3) wL wr) (fun _ i _ => n - (intOf i).toNat)
    case atStart => exact ⟨0, Nat.zero_le _, rfl, World.ownsRow_nil _ _ _ _, hx⟩
    case round =>
      obtain ⟨j, hj, rfl, hown, hb⟩ := hrel
      have hz := hb.size
      by_cases hlt : j < n
      · have t2 : decide ((j : Int) < (n : Int)) = true := decide_eq_true (by omega)
        obtain ⟨d0, d1⟩ := two_at (a := s) (b := t) (HX1.out wr hb)
        have VS := Lib.hid (show vecC (List.replicate (j + 1) (s, t)) = vecC (List.replicate j (s, t)) ++ [.int .i64 s, .int .i64 t] by rw [List.replicate_succ', vecC_snoc])
        go_wp2_with (at_builtin; refine wp_append_vec (y0 := s) (y1 := t) rfl rfl Try.underlying22 hi iz0 rfl iz1 iz2 rfl (hown.alloc _) rfl ?c1 ?c2 ?c3 ?c4 ?_; (case c1 => go_cell); (case c2 => go_cell); (case c3 => omega); (case c4 => (simp; omega)); intro v1 w1 hown3 hgrow)
        go_roundw
        case rel => exact ⟨j + 1, by omega, by go_num, by rw [VS.out]; exact hown3, (hb.alloc (by omega) _).grown hgrow (by simp; omega) (owns_fresh hown)⟩
        case measure => simp [intOf]; omega
      · obtain rfl : n = j := by omega
        have t2 : decide ((n : Int) < (n : Int)) = false := decide_eq_false (by omega)
        obtain ⟨qq, cap2, rfl, hV0⟩ := vecs_own (l := List.replicate n (s, t)) List.length_replicate hown
        have hV : VecsAt wr qq n (fun _ => (s, t)) := hV0.congr fun i hi => by simp [List.getD, hi]
        have D2 := Lib.hid (HX1.out wr hb)
        have D0 := Lib.hid (HX0.out wr hb)
        have DB : Below B w wr := gB.trans (hb.mono (by omega))
        clear hown hV0 hi iz0 iz1 iz2 gB
        have CL := Lib.hid (fun (x' : World) (hx' : Below wr.heap.size wr x') => (lives19 x').mono fun e z h => (⟨h.1, hx'.trans (h.2.mono hx'.size)⟩ : e = .returned (.bool true) ∧ Below wr.heap.size wr z))
        have HE := Lib.hid (fun (x' : World) (hx' : Below wr.heap.size wr x') => (by rw [HB.out]; exact DB.trans (hx'.mono (by omega)) : Below w.heap.size w x'))
        have g3 : c = 0 := by omega
        have tc : ((c : Int) == 0) = true := by simpa using g3
        clear g3 h0
        go_wp2_with fail
        rw [e1]
        clear CS C1
        refine wp_region_calm (S := fun x => Below wr.heap.size wr x) 21 (by kernel_rfl) (by kernel_rfl) (Below.refl _ _).drew ?_
        simp only [List.take_succ_cons, List.take_zero, List.drop_succ_cons, List.drop_zero]
        refine calm_value (v := ?vp0) (by kernel_rfl) ?m ?_; (case m => (intro x _; go_simp; try with_reducible rfl))
        simp only [Act.put, List.setIfInBounds_toArray, List.set_cons_zero, List.set_cons_succ]
        refine calm_value (v := ?vp1) (by kernel_rfl) ?m ?_; (case m => (intro x _; go_simp; try with_reducible rfl))
        simp only [Act.put, List.setIfInBounds_toArray, List.set_cons_zero, List.set_cons_succ]
        refine calm_value (v := ?vp2) (by kernel_rfl) ?m ?_; (case m => (intro x _; go_simp; try with_reducible rfl))
        simp only [Act.put, List.setIfInBounds_toArray, List.set_cons_zero, List.set_cons_succ]
        refine calm_not (by kernel_rfl) ?_
        simp only [Act.put, List.setIfInBounds_toArray, List.set_cons_zero, List.set_cons_succ]
        refine calm_not (by kernel_rfl) ?_
        simp only [Act.put, List.setIfInBounds_toArray, List.set_cons_zero, List.set_cons_succ]
        refine calm_not (by kernel_rfl) ?_
        simp only [Act.put, List.setIfInBounds_toArray, List.set_cons_zero, List.set_cons_succ]
        refine calm_not (by kernel_rfl) ?_
        simp only [Act.put, List.setIfInBounds_toArray, List.set_cons_zero, List.set_cons_succ]
        refine calm_value (v := ?vp7) (by kernel_rfl) ?m ?_; (case m => (intro x _; go_simp; try with_reducible rfl))
        simp only [Act.put, List.setIfInBounds_toArray, List.set_cons_zero, List.set_cons_succ]
        refine calm_value (v := ?vp8) (by kernel_rfl) ?m ?_; (case m => (intro x _; go_simp; try with_reducible rfl))
        simp only [Act.put, List.setIfInBounds_toArray, List.set_cons_zero, List.set_cons_succ]
        refine calm_not (by kernel_rfl) ?_
        simp only [Act.put, List.setIfInBounds_toArray, List.set_cons_zero, List.set_cons_succ]
        refine calm_not (by kernel_rfl) ?_
        simp only [Act.put, List.setIfInBounds_toArray, List.set_cons_zero, List.set_cons_succ]
        refine calm_not (by kernel_rfl) ?_
        simp only [Act.put, List.setIfInBounds_toArray, List.set_cons_zero, List.set_cons_succ]
        refine calm_not (by kernel_rfl) ?_
        simp only [Act.put, List.setIfInBounds_toArray, List.set_cons_zero, List.set_cons_succ]
        refine calm_not (by kernel_rfl) ?_
        simp only [Act.put, List.setIfInBounds_toArray, List.set_cons_zero, List.set_cons_succ]
        refine calm_not (by kernel_rfl) ?_
        simp only [Act.put, List.setIfInBounds_toArray, List.set_cons_zero, List.set_cons_succ]
        refine calm_not (by kernel_rfl) ?_
        simp only [Act.put, List.setIfInBounds_toArray, List.set_cons_zero, List.set_cons_succ]
        refine calm_value (v := ?vp16) (by kernel_rfl) ?m ?_; (case m => (intro x _; go_simp; try with_reducible rfl))
        simp only [Act.put, List.setIfInBounds_toArray, List.set_cons_zero, List.set_cons_succ]
        refine calm_value (v := ?vp17) (by kernel_rfl) ?m ?_; (case m => (intro x _; go_simp; try with_reducible rfl))
        simp only [Act.put, List.setIfInBounds_toArray, List.set_cons_zero, List.set_cons_succ]
        refine calm_call (by kernel_rfl) CL.out (fun _ => by kernel_rfl) ?_
        simp only [Act.put, List.setIfInBounds_toArray, List.set_cons_zero, List.set_cons_succ]
        refine calm_value (v := ?vp19) (by kernel_rfl) ?m ?_; (case m => (intro x _; go_simp; try with_reducible rfl))
        simp only [Act.put, List.setIfInBounds_toArray, List.set_cons_zero, List.set_cons_succ]
        refine calm_value (v := ?vp20) (by kernel_rfl) ?m ?_; (case m => (intro x _; go_simp; try with_reducible rfl))
        simp only [Act.put, List.setIfInBounds_toArray, List.set_cons_zero, List.set_cons_succ]
        refine calm_nil fun x' hx' => ?_
        go_wp2
        go_ret
        exact ⟨rfl, HE.out _ hx'⟩
theorem medianFirst_own : ownKnob Try.prog.godebug = none := by kernel_rfl
theorem medianFirst_laid : laidOutB Try.prog = true := by kernel_rfl
theorem medianFirst_reads : Try.f4.params.toList.all (fun t => Try.prog.readableRec t && decide (t < Try.prog.types.size)) = true := by kernel_rfl

set_option maxRecDepth 100000 in
theorem medianFirst_lifted (os : Os) (started : os.Started) (H : Type) (enc : TypeId × Value → H) :
    ReturnsInHanded {} Try.checked os 4 .any (Rows.medianFirstSpec.pre6 enc Try.prog Try.f4 Rows.medianFirstRow.domain false) (Rows.medianFirstSpec.post enc Try.prog Try.f4 false true false false) := by
  refine returnsInHanded_of_change (C := Try.checked) medianFirst_own started (by kernel_rfl) Try.func4
    (ChangeSpec.witness6 (enc := enc) (C := Try.checked) false ⟨#[], #[.slice none 0 0, .agg #[.int .i64 0, .int .i64 0], .agg #[.int .i64 0, .int .i64 0]], []⟩ 8 (by kernel_rfl) (by kernel_rfl) (by kernel_rfl) (by kernel_rfl)) ?_
  intro W base args ds gs before hval0 hW hcnd _
  have hval : ∀ (j : Nat) t v, Try.f4.params[j]? = some t → args[j]? = some v → Value.okWide Try.prog W .any base t v := hval0
  have hW' := hW
  obtain ⟨p, q, hA0, hV, rfl, hfz, hnd⟩ := hW
  have hA : DataW.TrodAll enc Try.prog W 0 (fun _ => true) true Try.f4.params.toList args.toList ds p := hA0
  rw [Try.params4] at hA hval
  obtain ⟨v0, vs0, d0, ds0, p0, q0, hargs, rfl, rfl, h0, r0⟩ := trodAll_cons hA
  obtain ⟨v1, vs1, d1, ds1, p1, q1, rfl, rfl, rfl, h1, r1⟩ := trodAll_cons r0
  obtain ⟨v2, vs2, d2, ds2, p2, q2, rfl, rfl, rfl, h2, r2⟩ := trodAll_cons r1
  obtain ⟨rfl, rfl, rfl⟩ := trodAll_nil r2
  obtain rfl : args = #[v0, v1, v2] := by cases args; simp_all
  obtain ⟨rfl, rfl⟩ := trodVars_none hV
  obtain ⟨p0, l0, c0, rfl, w0, x0⟩ := open_rows 2 _ Try.underlying22 (by kernel_rfl) (by decide) (two_array Try.underlying24 Try.underlying3 (by kernel_rfl)) (hval 0 22 v0 rfl rfl) h0
  obtain ⟨a1, b1, rfl, w1, x1⟩ := open_two Try.underlying24 Try.underlying3 (by kernel_rfl) (by kernel_rfl) (hval 1 24 v1 rfl rfl) h1
  obtain ⟨a2, b2, rfl, w2, x2⟩ := open_two Try.underlying24 Try.underlying3 (by kernel_rfl) (by kernel_rfl) (hval 2 24 v2 rfl rfl) h2
  clear hA0 hval0
  refine (medianFirst_walk p0 l0 c0 a1 b1 a2 b2 W x0 w0 w1 x1 w2 x2).mono fun e W' ⟨he, hb⟩ => ?_
  subst he
  exact ⟨_, rfl, law_end medianFirst_laid medianFirst_reads rfl Try.underlying4 rfl hW' rfl hb⟩

theorem medianFirst_over : Rows.medianFirstRow.holds Try.pinned (OpenSpec.ofChange Rows.medianFirstSpec) :=
  OpenClaim.holds_of_wide 4 Try.f4 rfl rfl rfl rfl rfl rfl rfl ⟨rfl, rfl, rfl, rfl, rfl⟩ rfl rfl rfl rfl rfl (by kernel_rfl) Try.func4 (by kernel_rfl)
    (of_decide_eq_true (by kernel_rfl)) (by unfold Func.isWrapper; first | (rw [if_pos (by decide +kernel)]; kernel_rfl) | (rw [if_neg (by decide +kernel)]; exact ⟨rfl, rfl⟩))
    (fun os started H enc _ => medianFirst_lifted os started H enc)

theorem medianFirst_holds : Rows.MedianFirstSaid :=
  medianFirst_over
#print axioms medianFirst_holds
end Go.Proofs.Ytknmhemajmiboaa
