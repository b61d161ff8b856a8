/- The vector foretold, by the document. No condition. -/
import Derived.Test.YtknmhemajmiboaaMedo
namespace Go.Proofs.Ytknmhemajmiboaa
open Go.RowKit Go.Lib

theorem one_first (w : World) (o1 : Obj) : (w.alloc o1).heap[w.heap.size]? = some o1 := heap_alloc_new w o1
set_option maxHeartbeats 1000000 in
theorem medat_none (p : Option Addr) (n cap : Nat) (A c q : Int) (w : World) (h : c < 0 ∨ A ≤ c) : Calls Try.prog 10 #[.slice p n cap, .int .i64 A, .int .i64 c, .int .i64 q] w (TwoGives (0, 0) w) := by
  by_cases h0 : c < 0
  · have t0 : decide (c < 0) = true := decide_eq_true h0
    clear h h0
    go_enter Try.func10, Try.ntmps10
    go_wp2
    refine bodyPost_ret (results_cell_row rfl _ _ w.heap.size 24 _ (0, 0) _ rfl (one_first w _) Try.underlying24 rfl (by kernel_rfl)) rfl ?_
    exact ⟨rfl, (Below.refl _ w).alloc (Nat.le_refl _) _⟩
  · have t0 : decide (c < 0) = false := decide_eq_false h0
    have t1 : decide (A ≤ c) = true := decide_eq_true (by omega)
    clear h h0
    go_enter Try.func10, Try.ntmps10
    go_wp2
    refine bodyPost_ret (results_cell_row rfl _ _ w.heap.size 24 _ (0, 0) _ rfl (one_first w _) Try.underlying24 rfl (by kernel_rfl)) rfl ?_
    exact ⟨rfl, (Below.refl _ w).alloc (Nat.le_refl _) _⟩
set_option maxHeartbeats 1000000 in
theorem medat_page (f : Nat → Int × Int) (p : Option Addr) (n cap : Nat) (A c q : Int) (i : Nat) (w : World) (ha : VecsAt w p n f) (hn : n ≤ maxLen) (h0 : 0 ≤ c) (h1 : c < A) (hq : 0 ≤ q) (hi : q * A + c = (i : Int)) (hlt : i < n) :
    Calls Try.prog 10 #[.slice p n cap, .int .i64 A, .int .i64 c, .int .i64 q] w (TwoGives (f i) w) := by
  unfold maxLen at hn
  have t0 : decide (c < 0) = false := decide_eq_false (by omega)
  have t1 : decide (A ≤ c) = false := decide_eq_false (by omega)
  obtain ⟨P, hP⟩ : ∃ P, q * A = P := ⟨_, rfl⟩
  have hP0 : 0 ≤ P := by rw [← hP]; exact Int.mul_nonneg hq (by omega)
  rw [hP] at hi
  obtain ⟨b, o, rfl, hr⟩ := vecs_hold ha (by omega)
  obtain ⟨c0, c1⟩ := hr (w.alloc (.cells #[.int .i64 0, .int .i64 0] 24 (0, 0))) ((Below.refl _ w).alloc (Nat.le_refl _) _) i hlt
  have hlt2 : (i : Int) < (n : Int) := by omega
  have wP : IntKind.i64.wrap P = P := wrapN (by omega)
  clear ha hr
  generalize f i = y at *
  go_enter Try.func10, Try.ntmps10
  go_wp2
  refine bodyPost_ret (results_cell_row rfl _ _ w.heap.size 24 _ (0, 0) _ rfl (one_first w _) Try.underlying24 rfl (by kernel_rfl)) rfl ?_
  exact ⟨rfl, (Below.refl _ w).alloc (Nat.le_refl _) _⟩

theorem sub_prod (n A : Nat) : (((n / A : Nat) : Int) - 1) * (A : Int) + ((n % A : Nat) : Int) = (n : Int) - (A : Int) := by
  have h2 : ((A : Int) * ((n / A : Nat) : Int) + ((n % A : Nat) : Int)) = (n : Int) := by exact_mod_cast Nat.div_add_mod n A
  rw [Int.sub_mul, Int.one_mul, Int.mul_comm]
  omega
theorem lef_page (f : Nat → Int × Int) (p : Option Addr) (n cap A : Nat) (x : World) (ha : VecsAt x p n f) (hn : n ≤ maxLen) (h1 : 1 ≤ A) :
    Calls Try.prog 10 #[.slice p n cap, .int .i64 (A : Int), .int .i64 (((n % A : Nat) : Int) - 1), .int .i64 ((n / A : Nat) : Int)] x (TwoGives (lefV f n A) x) := by
  obtain ⟨-, -, m3, m4, -, -⟩ := med_nums (n := n) h1
  unfold lefV
  by_cases h : 0 < n % A
  · rw [if_pos h]
    have h2 : ((A : Int) * ((n / A : Nat) : Int) + ((n % A : Nat) : Int)) = (n : Int) := by exact_mod_cast Nat.div_add_mod n A
    rw [Int.mul_comm] at h2
    exact medat_page f p n cap _ _ _ (n - 1) x ha hn (by omega) (by omega) (Int.natCast_nonneg _) (by have := m4 h; omega) (by have := m4 h; omega)
  · rw [if_neg h]
    exact medat_none p n cap _ _ _ x (by omega)
theorem abo_page (f : Nat → Int × Int) (p : Option Addr) (n cap A : Nat) (x : World) (ha : VecsAt x p n f) (hn : n ≤ maxLen) (h1 : 1 ≤ A) (h : 0 < n / A) :
    Calls Try.prog 10 #[.slice p n cap, .int .i64 (A : Int), .int .i64 ((n % A : Nat) : Int), .int .i64 (((n / A : Nat) : Int) - 1)] x (TwoGives (f (n - A)) x) := by
  obtain ⟨-, -, m3, m4, m5, -⟩ := med_nums (n := n) h1
  have h2 := sub_prod n A
  have h3 := m5 h
  exact medat_page f p n cap _ _ _ (n - A) x ha hn (by omega) (by omega) (by omega) (by omega) (by omega)
theorem rig_page (f : Nat → Int × Int) (p : Option Addr) (n cap A : Nat) (x : World) (ha : VecsAt x p n f) (hn : n ≤ maxLen) (h1 : 1 ≤ A) (h : 0 < n / A) :
    Calls Try.prog 10 #[.slice p n cap, .int .i64 (A : Int), .int .i64 (((n % A : Nat) : Int) + 1), .int .i64 (((n / A : Nat) : Int) - 1)] x (TwoGives (if n % A < A - 1 then f (n - A + 1) else (0, 0)) x) := by
  obtain ⟨-, -, m3, m4, m5, -⟩ := med_nums (n := n) h1
  have h2 := sub_prod n A
  have h3 := m5 h
  by_cases hg : n % A < A - 1
  · rw [if_pos hg]
    exact medat_page f p n cap _ _ _ (n - A + 1) x ha hn (by omega) (by omega) (by omega) (by omega) (by omega)
  · rw [if_neg hg]
    exact medat_none p n cap _ _ _ x (by omega)
set_option maxHeartbeats 2000000 in
theorem medof_page (f : Nat → Int × Int) (p : Option Addr) (n cap : Nat) (across first : Int) (w : World) (ha : VecsAt w p n f) (hn : n ≤ maxLen) (hA : across ≤ 9223372036854775807) :
    Calls Try.prog 7 #[.slice p n cap, .int .i64 across, .int .i64 first] w (TwoGives (medV f n across first) w) := by
  have HM := Lib.hid (show medV f n across first = if across < 1 then (0, 0) else (middle (lefV f n across.toNat).1 (aboV f n across.toNat first).1 (rigV f n across.toNat first).1, middle (lefV f n across.toNat).2 (aboV f n across.toNat first).2 (rigV f n across.toNat first).2) from rfl)
  generalize medV f n across first = M at *
  by_cases h1 : across < 1
  · have t0 : decide (across < 1) = true := decide_eq_true h1
    rw [if_pos h1] at HM
    clear ha hn hA h1
    go_enter Try.func7, Try.ntmps7
    go_wp2
    refine bodyPost_ret (results_cell_row rfl _ _ w.heap.size 24 _ (0, 0) _ rfl (one_first w _) Try.underlying24 rfl (by kernel_rfl)) rfl ?_
    exact ⟨by rw [HM.out]; rfl, (Below.refl _ w).alloc (Nat.le_refl _) _⟩
  have t0 : decide (across < 1) = false := decide_eq_false h1
  rw [if_neg h1] at HM
  obtain ⟨A, rfl⟩ : ∃ A : Nat, across = (A : Int) := ⟨across.toNat, by omega⟩
  rw [Int.toNat_natCast] at HM
  have hA1 : 1 ≤ A := by omega
  obtain ⟨m1, m2, m3, m4, m5, m6⟩ := med_nums (n := n) hA1
  have z0 : ((A : Int) == 0) = false := by simp; omega
  have e1 : (n : Int) % (A : Int) = ((n % A : Nat) : Int) := rfl
  have e2 : (n : Int) / (A : Int) = ((n / A : Nat) : Int) := rfl
  have hn' := hn
  unfold maxLen at hn'
  have wd : IntKind.i64.wrap ((n / A : Nat) : Int) = ((n / A : Nat) : Int) := wrapNat (by omega)
  have HU := Lib.hid (show aboV f n A first = if upV n A first then f (n - A) else lefV f n A from rfl)
  have HR := Lib.hid (show rigV f n A first = if upV n A first then (if n % A < A - 1 then f (n - A + 1) else (0, 0)) else lefV f n A from rfl)
  have hup : upV n A first = (decide (0 < n / A) && decide (first < ((n / A : Nat) : Int))) := rfl
  have CL := Lib.hid (fun x (hx : Below w.heap.size w x) => lef_page f p n cap A x (ha.mono hx) hn hA1)
  have CU := fun x (hx : Below w.heap.size w x) => abo_page f p n cap A x (ha.mono hx) hn hA1
  have CR := fun x (hx : Below w.heap.size w x) => rig_page f p n cap A x (ha.mono hx) hn hA1
  generalize lefV f n A = L at *
  generalize aboV f n A first = U at *
  generalize rigV f n A first = R at *
  generalize upV n A first = up at *
  generalize f (n - A) = U' at *
  generalize (if n % A < A - 1 then f (n - A + 1) else (0, 0)) = R' at *
  generalize n % A = c at *
  generalize n / A = q at *
  obtain ⟨B, hB⟩ : ∃ B, w.heap.size = B := ⟨_, rfl⟩
  obtain ⟨wA, hwA⟩ : ∃ wA, w.alloc zerO = wA := ⟨_, rfl⟩
  have T1 : wA.heap[B]? = some zerO := by rw [← hwA, ← hB]; exact heap_alloc_new w _
  have T2 : wA.heap.size = B + 1 := by rw [← hwA, ← hB]; simp
  have T3 : Below B w wA := by rw [← hwA, ← hB]; exact (Below.refl _ w).alloc (Nat.le_refl _) _
  have HB := Lib.hid hB
  have HW := Lib.hid hwA
  rw [hB] at CL CU CR
  unfold zerO at HW
  have hc1 : (c : Int) ≤ 9223372036854775806 := by omega
  have hq1 : (q : Int) ≤ 9223372036854775807 := by omega
  clear ha hn hA h1 hB hwA m1 m2 m3 m4 m5 m6
  obtain ⟨l0, l1⟩ := L
  cases hu : up with
  | false =>
    rw [hu] at HU HR
    replace HU := Lib.hid (show U = (l0, l1) from HU.out)
    replace HR := Lib.hid (show R = (l0, l1) from HR.out)
    clear CU CR
    rw [hu] at hup
    have hg : decide (0 < q) = false ∨ (decide (0 < q) = true ∧ decide (first < (q : Int)) = false) := by
      cases h5 : decide (0 < q) with
      | false => exact .inl rfl
      | true => refine .inr ⟨rfl, ?_⟩; rw [h5] at hup; simpa using hup.symm
    clear hup hu
    rcases hg with t1 | ⟨t1, t2⟩
    · have hdo := ()
      go_enter Try.func7, Try.ntmps7
      go_wp2_with fail
      rw [HW.out, HB.out]
      go_wp2_with fail
      refine (CL.out wA T3).mono ?_
      rintro e w1 ⟨rfl, hb1⟩
      obtain ⟨N, hN⟩ : ∃ N, w1.heap.size = N := ⟨_, rfl⟩
      have hz1 : B + 1 ≤ N := by have := hb1.size; omega
      have K0 := (hb1.block B (by omega)).trans T1
      have KB : Below B w w1 := T3.trans (hb1.mono (by omega))
      clear hb1 T1 T2 T3
      unfold twoA
      obtain ⟨wT, hwT⟩ : ∃ wT, ((w1.alloc (.cells (twoA l0 l1) 24 (0, 0))).alloc (.cells (twoA l0 l1) 24 (0, 0))).alloc (.cells (twoA l0 l1) 24 (0, 0)) = wT := ⟨_, rfl⟩
      have gb : Below B w wT := by rw [← hwT]; exact ((KB.alloc (by omega) _).alloc (by simp; omega) _).alloc (by simp; omega) _
      have gB : wT.heap[B]? = some zerO := by rw [← hwT]; exact heap_keep (heap_keep (heap_keep K0))
      have g0 : wT.heap[N]? = some (.cells (twoA l0 l1) 24 (0, 0)) := by rw [← hwT, ← hN]; exact heap_keep (heap_keep (heap_alloc_new w1 _))
      have g1 : wT.heap[N + 1]? = some (.cells (twoA l0 l1) 24 (0, 0)) := by rw [← hwT, ← hN]; exact heap_keep (by simpa using heap_alloc_new (w1.alloc _) _)
      have g2 : wT.heap[N + 1 + 1]? = some (.cells (twoA l0 l1) 24 (0, 0)) := by rw [← hwT, ← hN]; simpa using heap_alloc_new ((w1.alloc _).alloc _) _
      have gz : wT.heap.size = N + 3 := by rw [← hwT, ← hN]; simp
      have HN := Lib.hid hN
      have HWT := Lib.hid hwT
      unfold twoA at HWT
      clear hwT hN K0 KB HW CL
      unfold zerO at gB
      go_wp2_with fail
      rw [HWT.out, HN.out]
      have HX := Lib.hid (fun (x : World) (hx : Below wT.heap.size wT x) => (⟨two_at ((hx.block N (by omega)).trans g0), two_at ((hx.block (N + 1) (by omega)).trans g1), two_at ((hx.block (N + 1 + 1) (by omega)).trans g2)⟩ : (x.cell? ⟨N, 0, none⟩ = some (.int .i64 l0) ∧ x.cell? ⟨N, 1, none⟩ = some (.int .i64 l1)) ∧ (x.cell? ⟨N + 1, 0, none⟩ = some (.int .i64 l0) ∧ x.cell? ⟨N + 1, 1, none⟩ = some (.int .i64 l1)) ∧ (x.cell? ⟨N + 1 + 1, 0, none⟩ = some (.int .i64 l0) ∧ x.cell? ⟨N + 1 + 1, 1, none⟩ = some (.int .i64 l1))))
      obtain ⟨m0, hm0⟩ : ∃ m, middle l0 l0 l0 = m := ⟨_, rfl⟩
      obtain ⟨m1, hm1⟩ : ∃ m, middle l1 l1 l1 = m := ⟨_, rfl⟩
      have C0 := Lib.hid (fun (x : World) (hx : Below wT.heap.size wT x) => (middle_page l0 l0 l0 x).mono fun e y h => (⟨h.1.trans (by rw [hm0]), h.2 ▸ hx⟩ : e = .returned (.int .i64 m0) ∧ Below wT.heap.size wT y))
      have C1 := Lib.hid (fun (x : World) (hx : Below wT.heap.size wT x) => (middle_page l1 l1 l1 x).mono fun e y h => (⟨h.1.trans (by rw [hm1]), h.2 ▸ hx⟩ : e = .returned (.int .i64 m1) ∧ Below wT.heap.size wT y))
      have HM2 := Lib.hid (show M = (m0, m1) by rw [HM.out, HU.out, HR.out, ← hm0, ← hm1])
      clear hm0 hm1 HM HU HR
      refine wp_region_calm (S := fun x => Below wT.heap.size wT x) 15 (by kernel_rfl) (by kernel_rfl) (Below.refl _ _).drew ?_
      simp only [List.take_succ_cons, List.take_zero, List.drop_succ_cons, List.drop_zero]
      refine calm_value (v := ?vka0) (by kernel_rfl) ?m ?_; (case m => (intro x _; go_simp; try with_reducible rfl))
      simp only [Act.put, List.setIfInBounds_toArray, List.set_cons_zero, List.set_cons_succ]
      refine calm_cell 3 _ ⟨(N), 0, none⟩ (.int .i64 l0) (by kernel_rfl) rfl rfl (fun x hx => by have c0 := (HX.out x hx).1.1; go_simp) ?_
      simp only [Act.put, List.setIfInBounds_toArray, List.set_cons_zero, List.set_cons_succ]
      refine calm_value (v := ?vka2) (by kernel_rfl) ?m ?_; (case m => (intro x _; go_simp; try with_reducible rfl))
      simp only [Act.put, List.setIfInBounds_toArray, List.set_cons_zero, List.set_cons_succ]
      refine calm_cell 3 _ ⟨(N + 1), 0, none⟩ (.int .i64 l0) (by kernel_rfl) rfl rfl (fun x hx => by have c0 := (HX.out x hx).2.1.1; go_simp) ?_
      simp only [Act.put, List.setIfInBounds_toArray, List.set_cons_zero, List.set_cons_succ]
      refine calm_value (v := ?vka4) (by kernel_rfl) ?m ?_; (case m => (intro x _; go_simp; try with_reducible rfl))
      simp only [Act.put, List.setIfInBounds_toArray, List.set_cons_zero, List.set_cons_succ]
      refine calm_cell 3 _ ⟨(N + 1 + 1), 0, none⟩ (.int .i64 l0) (by kernel_rfl) rfl rfl (fun x hx => by have c0 := (HX.out x hx).2.2.1; go_simp) ?_
      simp only [Act.put, List.setIfInBounds_toArray, List.set_cons_zero, List.set_cons_succ]
      refine calm_call (by kernel_rfl) C0.out (fun _ => by kernel_rfl) ?_
      simp only [Act.put, List.setIfInBounds_toArray, List.set_cons_zero, List.set_cons_succ]
      refine calm_value (v := ?vka7) (by kernel_rfl) ?m ?_; (case m => (intro x _; go_simp; try with_reducible rfl))
      simp only [Act.put, List.setIfInBounds_toArray, List.set_cons_zero, List.set_cons_succ]
      refine calm_cell 3 _ ⟨(N), 1, none⟩ (.int .i64 l1) (by kernel_rfl) rfl rfl (fun x hx => by have c0 := (HX.out x hx).1.2; go_simp) ?_
      simp only [Act.put, List.setIfInBounds_toArray, List.set_cons_zero, List.set_cons_succ]
      refine calm_value (v := ?vka9) (by kernel_rfl) ?m ?_; (case m => (intro x _; go_simp; try with_reducible rfl))
      simp only [Act.put, List.setIfInBounds_toArray, List.set_cons_zero, List.set_cons_succ]
      refine calm_cell 3 _ ⟨(N + 1), 1, none⟩ (.int .i64 l1) (by kernel_rfl) rfl rfl (fun x hx => by have c0 := (HX.out x hx).2.1.2; go_simp) ?_
      simp only [Act.put, List.setIfInBounds_toArray, List.set_cons_zero, List.set_cons_succ]
      refine calm_value (v := ?vka11) (by kernel_rfl) ?m ?_; (case m => (intro x _; go_simp; try with_reducible rfl))
      simp only [Act.put, List.setIfInBounds_toArray, List.set_cons_zero, List.set_cons_succ]
      refine calm_cell 3 _ ⟨(N + 1 + 1), 1, none⟩ (.int .i64 l1) (by kernel_rfl) rfl rfl (fun x hx => by have c0 := (HX.out x hx).2.2.2; go_simp) ?_
      simp only [Act.put, List.setIfInBounds_toArray, List.set_cons_zero, List.set_cons_succ]
      refine calm_call (by kernel_rfl) C1.out (fun _ => by kernel_rfl) ?_
      simp only [Act.put, List.setIfInBounds_toArray, List.set_cons_zero, List.set_cons_succ]
      refine calm_value (v := ?vka14) (by kernel_rfl) ?m ?_; (case m => (intro x _; go_simp; try with_reducible rfl))
      simp only [Act.put, List.setIfInBounds_toArray, List.set_cons_zero, List.set_cons_succ]
      refine calm_nil fun x hx => ?_
      have k0 : x.heap[B]? = some (.cells #[.int .i64 0, .int .i64 0] 24 (0, 0)) := (hx.block B (by omega)).trans gB
      have g1 : (Try.prog.info? 24).map (·.size) = some (#[.int .i64 m0, .int .i64 m1] : Array Value).size := two_size
      have g2 : (#[.int .i64 0, .int .i64 0] : Array Value).size = (#[.int .i64 m0, .int .i64 m1] : Array Value).size := rfl
      have g3 : (#[.int .i64 m0, .int .i64 m1] : Array Value).all (·.oneCell') = true := two_one m0 m1
      go_wp2_with (with_reducible refine wp_store_arr rfl 24 _ _ rfl B #[.int .i64 m0, .int .i64 m1] #[.int .i64 0, .int .i64 0] rfl rfl 24 k0 g1 g2 g3 ?_; intro w3 hh3 hg3)
      refine bodyPost_ret (results_cell_row rfl _ _ B 24 _ (0, 0) _ rfl hh3 Try.underlying24 rfl (by kernel_rfl)) rfl ?_
      exact ⟨by rw [HM2.out]; rfl, by rw [HB.out]; exact (gb.trans (hx.mono (by omega))).grown hg3 (by have := hx.size; omega) (fun k hk => by injection hk with hk; omega)⟩
    · have hdo := ()
      go_enter Try.func7, Try.ntmps7
      go_wp2_with fail
      rw [HW.out, HB.out]
      go_wp2_with fail
      refine (CL.out wA T3).mono ?_
      rintro e w1 ⟨rfl, hb1⟩
      obtain ⟨N, hN⟩ : ∃ N, w1.heap.size = N := ⟨_, rfl⟩
      have hz1 : B + 1 ≤ N := by have := hb1.size; omega
      have K0 := (hb1.block B (by omega)).trans T1
      have KB : Below B w w1 := T3.trans (hb1.mono (by omega))
      clear hb1 T1 T2 T3
      unfold twoA
      obtain ⟨wT, hwT⟩ : ∃ wT, ((w1.alloc (.cells (twoA l0 l1) 24 (0, 0))).alloc (.cells (twoA l0 l1) 24 (0, 0))).alloc (.cells (twoA l0 l1) 24 (0, 0)) = wT := ⟨_, rfl⟩
      have gb : Below B w wT := by rw [← hwT]; exact ((KB.alloc (by omega) _).alloc (by simp; omega) _).alloc (by simp; omega) _
      have gB : wT.heap[B]? = some zerO := by rw [← hwT]; exact heap_keep (heap_keep (heap_keep K0))
      have g0 : wT.heap[N]? = some (.cells (twoA l0 l1) 24 (0, 0)) := by rw [← hwT, ← hN]; exact heap_keep (heap_keep (heap_alloc_new w1 _))
      have g1 : wT.heap[N + 1]? = some (.cells (twoA l0 l1) 24 (0, 0)) := by rw [← hwT, ← hN]; exact heap_keep (by simpa using heap_alloc_new (w1.alloc _) _)
      have g2 : wT.heap[N + 1 + 1]? = some (.cells (twoA l0 l1) 24 (0, 0)) := by rw [← hwT, ← hN]; simpa using heap_alloc_new ((w1.alloc _).alloc _) _
      have gz : wT.heap.size = N + 3 := by rw [← hwT, ← hN]; simp
      have HN := Lib.hid hN
      have HWT := Lib.hid hwT
      unfold twoA at HWT
      clear hwT hN K0 KB HW CL
      unfold zerO at gB
      go_wp2_with fail
      rw [HWT.out, HN.out]
      have HX := Lib.hid (fun (x : World) (hx : Below wT.heap.size wT x) => (⟨two_at ((hx.block N (by omega)).trans g0), two_at ((hx.block (N + 1) (by omega)).trans g1), two_at ((hx.block (N + 1 + 1) (by omega)).trans g2)⟩ : (x.cell? ⟨N, 0, none⟩ = some (.int .i64 l0) ∧ x.cell? ⟨N, 1, none⟩ = some (.int .i64 l1)) ∧ (x.cell? ⟨N + 1, 0, none⟩ = some (.int .i64 l0) ∧ x.cell? ⟨N + 1, 1, none⟩ = some (.int .i64 l1)) ∧ (x.cell? ⟨N + 1 + 1, 0, none⟩ = some (.int .i64 l0) ∧ x.cell? ⟨N + 1 + 1, 1, none⟩ = some (.int .i64 l1))))
      obtain ⟨m0, hm0⟩ : ∃ m, middle l0 l0 l0 = m := ⟨_, rfl⟩
      obtain ⟨m1, hm1⟩ : ∃ m, middle l1 l1 l1 = m := ⟨_, rfl⟩
      have C0 := Lib.hid (fun (x : World) (hx : Below wT.heap.size wT x) => (middle_page l0 l0 l0 x).mono fun e y h => (⟨h.1.trans (by rw [hm0]), h.2 ▸ hx⟩ : e = .returned (.int .i64 m0) ∧ Below wT.heap.size wT y))
      have C1 := Lib.hid (fun (x : World) (hx : Below wT.heap.size wT x) => (middle_page l1 l1 l1 x).mono fun e y h => (⟨h.1.trans (by rw [hm1]), h.2 ▸ hx⟩ : e = .returned (.int .i64 m1) ∧ Below wT.heap.size wT y))
      have HM2 := Lib.hid (show M = (m0, m1) by rw [HM.out, HU.out, HR.out, ← hm0, ← hm1])
      clear hm0 hm1 HM HU HR
      refine wp_region_calm (S := fun x => Below wT.heap.size wT x) 15 (by kernel_rfl) (by kernel_rfl) (Below.refl _ _).drew ?_
      simp only [List.take_succ_cons, List.take_zero, List.drop_succ_cons, List.drop_zero]
      refine calm_value (v := ?vkb0) (by kernel_rfl) ?m ?_; (case m => (intro x _; go_simp; try with_reducible rfl))
      simp only [Act.put, List.setIfInBounds_toArray, List.set_cons_zero, List.set_cons_succ]
      refine calm_cell 3 _ ⟨(N), 0, none⟩ (.int .i64 l0) (by kernel_rfl) rfl rfl (fun x hx => by have c0 := (HX.out x hx).1.1; go_simp) ?_
      simp only [Act.put, List.setIfInBounds_toArray, List.set_cons_zero, List.set_cons_succ]
      refine calm_value (v := ?vkb2) (by kernel_rfl) ?m ?_; (case m => (intro x _; go_simp; try with_reducible rfl))
      simp only [Act.put, List.setIfInBounds_toArray, List.set_cons_zero, List.set_cons_succ]
      refine calm_cell 3 _ ⟨(N + 1), 0, none⟩ (.int .i64 l0) (by kernel_rfl) rfl rfl (fun x hx => by have c0 := (HX.out x hx).2.1.1; go_simp) ?_
      simp only [Act.put, List.setIfInBounds_toArray, List.set_cons_zero, List.set_cons_succ]
      refine calm_value (v := ?vkb4) (by kernel_rfl) ?m ?_; (case m => (intro x _; go_simp; try with_reducible rfl))
      simp only [Act.put, List.setIfInBounds_toArray, List.set_cons_zero, List.set_cons_succ]
      refine calm_cell 3 _ ⟨(N + 1 + 1), 0, none⟩ (.int .i64 l0) (by kernel_rfl) rfl rfl (fun x hx => by have c0 := (HX.out x hx).2.2.1; go_simp) ?_
      simp only [Act.put, List.setIfInBounds_toArray, List.set_cons_zero, List.set_cons_succ]
      refine calm_call (by kernel_rfl) C0.out (fun _ => by kernel_rfl) ?_
      simp only [Act.put, List.setIfInBounds_toArray, List.set_cons_zero, List.set_cons_succ]
      refine calm_value (v := ?vkb7) (by kernel_rfl) ?m ?_; (case m => (intro x _; go_simp; try with_reducible rfl))
      simp only [Act.put, List.setIfInBounds_toArray, List.set_cons_zero, List.set_cons_succ]
      refine calm_cell 3 _ ⟨(N), 1, none⟩ (.int .i64 l1) (by kernel_rfl) rfl rfl (fun x hx => by have c0 := (HX.out x hx).1.2; go_simp) ?_
      simp only [Act.put, List.setIfInBounds_toArray, List.set_cons_zero, List.set_cons_succ]
      refine calm_value (v := ?vkb9) (by kernel_rfl) ?m ?_; (case m => (intro x _; go_simp; try with_reducible rfl))
      simp only [Act.put, List.setIfInBounds_toArray, List.set_cons_zero, List.set_cons_succ]
      refine calm_cell 3 _ ⟨(N + 1), 1, none⟩ (.int .i64 l1) (by kernel_rfl) rfl rfl (fun x hx => by have c0 := (HX.out x hx).2.1.2; go_simp) ?_
      simp only [Act.put, List.setIfInBounds_toArray, List.set_cons_zero, List.set_cons_succ]
      refine calm_value (v := ?vkb11) (by kernel_rfl) ?m ?_; (case m => (intro x _; go_simp; try with_reducible rfl))
      simp only [Act.put, List.setIfInBounds_toArray, List.set_cons_zero, List.set_cons_succ]
      refine calm_cell 3 _ ⟨(N + 1 + 1), 1, none⟩ (.int .i64 l1) (by kernel_rfl) rfl rfl (fun x hx => by have c0 := (HX.out x hx).2.2.2; go_simp) ?_
      simp only [Act.put, List.setIfInBounds_toArray, List.set_cons_zero, List.set_cons_succ]
      refine calm_call (by kernel_rfl) C1.out (fun _ => by kernel_rfl) ?_
      simp only [Act.put, List.setIfInBounds_toArray, List.set_cons_zero, List.set_cons_succ]
      refine calm_value (v := ?vkb14) (by kernel_rfl) ?m ?_; (case m => (intro x _; go_simp; try with_reducible rfl))
      simp only [Act.put, List.setIfInBounds_toArray, List.set_cons_zero, List.set_cons_succ]
      refine calm_nil fun x hx => ?_
      have k0 : x.heap[B]? = some (.cells #[.int .i64 0, .int .i64 0] 24 (0, 0)) := (hx.block B (by omega)).trans gB
      have g1 : (Try.prog.info? 24).map (·.size) = some (#[.int .i64 m0, .int .i64 m1] : Array Value).size := two_size
      have g2 : (#[.int .i64 0, .int .i64 0] : Array Value).size = (#[.int .i64 m0, .int .i64 m1] : Array Value).size := rfl
      have g3 : (#[.int .i64 m0, .int .i64 m1] : Array Value).all (·.oneCell') = true := two_one m0 m1
      go_wp2_with (with_reducible refine wp_store_arr rfl 24 _ _ rfl B #[.int .i64 m0, .int .i64 m1] #[.int .i64 0, .int .i64 0] rfl rfl 24 k0 g1 g2 g3 ?_; intro w3 hh3 hg3)
      refine bodyPost_ret (results_cell_row rfl _ _ B 24 _ (0, 0) _ rfl hh3 Try.underlying24 rfl (by kernel_rfl)) rfl ?_
      exact ⟨by rw [HM2.out]; rfl, by rw [HB.out]; exact (gb.trans (hx.mono (by omega))).grown hg3 (by have := hx.size; omega) (fun k hk => by injection hk with hk; omega)⟩
  | true =>
    rw [hu] at HU HR
    replace HU := Lib.hid (show U = U' from HU.out)
    replace HR := Lib.hid (show R = R' from HR.out)
    rw [hu] at hup
    have hg : decide (0 < q) = true ∧ decide (first < (q : Int)) = true := by simpa using hup.symm
    obtain ⟨t1, t2⟩ := hg
    have CU := Lib.hid (fun x (hx : Below B w x) => CU x hx (by simpa using t1))
    have CR := Lib.hid (fun x (hx : Below B w x) => CR x hx (by simpa using t1))
    clear hup hu
    obtain ⟨u0, u1⟩ := U'
    obtain ⟨r0, r1⟩ := R'

    go_enter Try.func7, Try.ntmps7
    go_wp2_with fail
    rw [HW.out, HB.out]
    go_wp2_with fail
    refine (CL.out wA T3).mono ?_
    rintro e w1 ⟨rfl, hb1⟩
    obtain ⟨N, hN⟩ : ∃ N, w1.heap.size = N := ⟨_, rfl⟩
    have hz1 : B + 1 ≤ N := by have := hb1.size; omega
    have K0 := (hb1.block B (by omega)).trans T1
    have KB : Below B w w1 := T3.trans (hb1.mono (by omega))
    clear hb1 T1 T2 T3
    unfold twoA
    obtain ⟨wT, hwT⟩ : ∃ wT, ((w1.alloc (.cells (twoA l0 l1) 24 (0, 0))).alloc (.cells (twoA l0 l1) 24 (0, 0))).alloc (.cells (twoA l0 l1) 24 (0, 0)) = wT := ⟨_, rfl⟩
    have gb : Below B w wT := by rw [← hwT]; exact ((KB.alloc (by omega) _).alloc (by simp; omega) _).alloc (by simp; omega) _
    have gB : wT.heap[B]? = some zerO := by rw [← hwT]; exact heap_keep (heap_keep (heap_keep K0))
    have g0 : wT.heap[N]? = some (.cells (twoA l0 l1) 24 (0, 0)) := by rw [← hwT, ← hN]; exact heap_keep (heap_keep (heap_alloc_new w1 _))
    have g1 : wT.heap[N + 1]? = some (.cells (twoA l0 l1) 24 (0, 0)) := by rw [← hwT, ← hN]; exact heap_keep (by simpa using heap_alloc_new (w1.alloc _) _)
    have g2 : wT.heap[N + 1 + 1]? = some (.cells (twoA l0 l1) 24 (0, 0)) := by rw [← hwT, ← hN]; simpa using heap_alloc_new ((w1.alloc _).alloc _) _
    have gz : wT.heap.size = N + 3 := by rw [← hwT, ← hN]; simp
    have HN := Lib.hid hN
    have HWT := Lib.hid hwT
    unfold twoA at HWT
    clear hwT hN K0 KB HW CL
    unfold zerO at gB
    go_wp2_with fail
    rw [HWT.out, HN.out]
    refine (CU.out wT gb).mono ?_
    rintro e wUa ⟨rfl, hb2⟩
    have hz2 := hb2.size
    have hk2 := hb2.block
    replace gb : Below B w wUa := gb.trans (hb2.mono (by omega))
    replace gB := (hk2 B (by omega)).trans gB
    replace g0 := (hk2 N (by omega)).trans g0
    replace g1 := (hk2 (N + 1) (by omega)).trans g1
    replace g2 := (hk2 (N + 1 + 1) (by omega)).trans g2
    replace gz : N + 3 ≤ wUa.heap.size := by omega
    clear hb2 hk2 hz2
    unfold twoA at g1
    unfold twoA
    have s1 : (Try.prog.info? 24).map (·.size) = some (#[.int .i64 u0, .int .i64 u1] : Array Value).size := two_size
    have s2 : (#[.int .i64 l0, .int .i64 l1] : Array Value).size = (#[.int .i64 u0, .int .i64 u1] : Array Value).size := rfl
    have s3 : (#[.int .i64 u0, .int .i64 u1] : Array Value).all (·.oneCell') = true := two_one u0 u1
    go_wp2_with (with_reducible refine wp_store_arr rfl 24 _ _ rfl (N + 1) #[.int .i64 u0, .int .i64 u1] #[.int .i64 l0, .int .i64 l1] rfl rfl 24 g1 s1 s2 s3 ?_; intro wU hh3 hg3)
    replace gb := gb.grown hg3 (by omega) (fun k hk => by injection hk with hk; omega)
    have hk3 := hg3.block
    have hz3 := hg3.size
    replace gB := (hk3 B (by omega) (by intro hk; injection hk with hk; omega)).trans gB
    replace g0 := (hk3 N (by omega) (by intro hk; injection hk with hk; omega)).trans g0
    replace g2 := (hk3 (N + 1 + 1) (by omega) (by intro hk; injection hk with hk; omega)).trans g2
    replace g1 : wU.heap[N + 1]? = some (.cells (twoA u0 u1) 24 (0, 0)) := hh3
    replace gz : N + 3 ≤ wU.heap.size := by omega
    clear hh3 hg3 hk3 hz3 s1 s2 s3
    refine (CR.out wU gb).mono ?_
    rintro e wRa ⟨rfl, hb2⟩
    have hz2 := hb2.size
    have hk2 := hb2.block
    replace gb : Below B w wRa := gb.trans (hb2.mono (by omega))
    replace gB := (hk2 B (by omega)).trans gB
    replace g0 := (hk2 N (by omega)).trans g0
    replace g1 := (hk2 (N + 1) (by omega)).trans g1
    replace g2 := (hk2 (N + 1 + 1) (by omega)).trans g2
    replace gz : N + 3 ≤ wRa.heap.size := by omega
    clear hb2 hk2 hz2
    unfold twoA at g2
    unfold twoA
    have s1 : (Try.prog.info? 24).map (·.size) = some (#[.int .i64 r0, .int .i64 r1] : Array Value).size := two_size
    have s2 : (#[.int .i64 l0, .int .i64 l1] : Array Value).size = (#[.int .i64 r0, .int .i64 r1] : Array Value).size := rfl
    have s3 : (#[.int .i64 r0, .int .i64 r1] : Array Value).all (·.oneCell') = true := two_one r0 r1
    go_wp2_with (with_reducible refine wp_store_arr rfl 24 _ _ rfl (N + 1 + 1) #[.int .i64 r0, .int .i64 r1] #[.int .i64 l0, .int .i64 l1] rfl rfl 24 g2 s1 s2 s3 ?_; intro wR hh3 hg3)
    replace gb := gb.grown hg3 (by omega) (fun k hk => by injection hk with hk; omega)
    have hk3 := hg3.block
    have hz3 := hg3.size
    replace gB := (hk3 B (by omega) (by intro hk; injection hk with hk; omega)).trans gB
    replace g0 := (hk3 N (by omega) (by intro hk; injection hk with hk; omega)).trans g0
    replace g1 := (hk3 (N + 1) (by omega) (by intro hk; injection hk with hk; omega)).trans g1
    replace g2 : wR.heap[N + 1 + 1]? = some (.cells (twoA r0 r1) 24 (0, 0)) := hh3
    replace gz : N + 3 ≤ wR.heap.size := by omega
    clear hh3 hg3 hk3 hz3 s1 s2 s3
    
    have HX := Lib.hid (fun (x : World) (hx : Below wR.heap.size wR x) => (⟨two_at ((hx.block N (by omega)).trans g0), two_at ((hx.block (N + 1) (by omega)).trans g1), two_at ((hx.block (N + 1 + 1) (by omega)).trans g2)⟩ : (x.cell? ⟨N, 0, none⟩ = some (.int .i64 l0) ∧ x.cell? ⟨N, 1, none⟩ = some (.int .i64 l1)) ∧ (x.cell? ⟨N + 1, 0, none⟩ = some (.int .i64 u0) ∧ x.cell? ⟨N + 1, 1, none⟩ = some (.int .i64 u1)) ∧ (x.cell? ⟨N + 1 + 1, 0, none⟩ = some (.int .i64 r0) ∧ x.cell? ⟨N + 1 + 1, 1, none⟩ = some (.int .i64 r1))))
    obtain ⟨m0, hm0⟩ : ∃ m, middle l0 u0 r0 = m := ⟨_, rfl⟩
    obtain ⟨m1, hm1⟩ : ∃ m, middle l1 u1 r1 = m := ⟨_, rfl⟩
    have C0 := Lib.hid (fun (x : World) (hx : Below wR.heap.size wR x) => (middle_page l0 u0 r0 x).mono fun e y h => (⟨h.1.trans (by rw [hm0]), h.2 ▸ hx⟩ : e = .returned (.int .i64 m0) ∧ Below wR.heap.size wR y))
    have C1 := Lib.hid (fun (x : World) (hx : Below wR.heap.size wR x) => (middle_page l1 u1 r1 x).mono fun e y h => (⟨h.1.trans (by rw [hm1]), h.2 ▸ hx⟩ : e = .returned (.int .i64 m1) ∧ Below wR.heap.size wR y))
    have HM2 := Lib.hid (show M = (m0, m1) by rw [HM.out, HU.out, HR.out, ← hm0, ← hm1])
    clear hm0 hm1 HM HU HR
    refine wp_region_calm (S := fun x => Below wR.heap.size wR x) 15 (by kernel_rfl) (by kernel_rfl) (Below.refl _ _).drew ?_
    simp only [List.take_succ_cons, List.take_zero, List.drop_succ_cons, List.drop_zero]
    refine calm_value (v := ?vkc0) (by kernel_rfl) ?m ?_; (case m => (intro x _; go_simp; try with_reducible rfl))
    simp only [Act.put, List.setIfInBounds_toArray, List.set_cons_zero, List.set_cons_succ]
    refine calm_cell 3 _ ⟨(N), 0, none⟩ (.int .i64 l0) (by kernel_rfl) rfl rfl (fun x hx => by have c0 := (HX.out x hx).1.1; go_simp) ?_
    simp only [Act.put, List.setIfInBounds_toArray, List.set_cons_zero, List.set_cons_succ]
    refine calm_value (v := ?vkc2) (by kernel_rfl) ?m ?_; (case m => (intro x _; go_simp; try with_reducible rfl))
    simp only [Act.put, List.setIfInBounds_toArray, List.set_cons_zero, List.set_cons_succ]
    refine calm_cell 3 _ ⟨(N + 1), 0, none⟩ (.int .i64 u0) (by kernel_rfl) rfl rfl (fun x hx => by have c0 := (HX.out x hx).2.1.1; go_simp) ?_
    simp only [Act.put, List.setIfInBounds_toArray, List.set_cons_zero, List.set_cons_succ]
    refine calm_value (v := ?vkc4) (by kernel_rfl) ?m ?_; (case m => (intro x _; go_simp; try with_reducible rfl))
    simp only [Act.put, List.setIfInBounds_toArray, List.set_cons_zero, List.set_cons_succ]
    refine calm_cell 3 _ ⟨(N + 1 + 1), 0, none⟩ (.int .i64 r0) (by kernel_rfl) rfl rfl (fun x hx => by have c0 := (HX.out x hx).2.2.1; go_simp) ?_
    simp only [Act.put, List.setIfInBounds_toArray, List.set_cons_zero, List.set_cons_succ]
    refine calm_call (by kernel_rfl) C0.out (fun _ => by kernel_rfl) ?_
    simp only [Act.put, List.setIfInBounds_toArray, List.set_cons_zero, List.set_cons_succ]
    refine calm_value (v := ?vkc7) (by kernel_rfl) ?m ?_; (case m => (intro x _; go_simp; try with_reducible rfl))
    simp only [Act.put, List.setIfInBounds_toArray, List.set_cons_zero, List.set_cons_succ]
    refine calm_cell 3 _ ⟨(N), 1, none⟩ (.int .i64 l1) (by kernel_rfl) rfl rfl (fun x hx => by have c0 := (HX.out x hx).1.2; go_simp) ?_
    simp only [Act.put, List.setIfInBounds_toArray, List.set_cons_zero, List.set_cons_succ]
    refine calm_value (v := ?vkc9) (by kernel_rfl) ?m ?_; (case m => (intro x _; go_simp; try with_reducible rfl))
    simp only [Act.put, List.setIfInBounds_toArray, List.set_cons_zero, List.set_cons_succ]
    refine calm_cell 3 _ ⟨(N + 1), 1, none⟩ (.int .i64 u1) (by kernel_rfl) rfl rfl (fun x hx => by have c0 := (HX.out x hx).2.1.2; go_simp) ?_
    simp only [Act.put, List.setIfInBounds_toArray, List.set_cons_zero, List.set_cons_succ]
    refine calm_value (v := ?vkc11) (by kernel_rfl) ?m ?_; (case m => (intro x _; go_simp; try with_reducible rfl))
    simp only [Act.put, List.setIfInBounds_toArray, List.set_cons_zero, List.set_cons_succ]
    refine calm_cell 3 _ ⟨(N + 1 + 1), 1, none⟩ (.int .i64 r1) (by kernel_rfl) rfl rfl (fun x hx => by have c0 := (HX.out x hx).2.2.2; go_simp) ?_
    simp only [Act.put, List.setIfInBounds_toArray, List.set_cons_zero, List.set_cons_succ]
    refine calm_call (by kernel_rfl) C1.out (fun _ => by kernel_rfl) ?_
    simp only [Act.put, List.setIfInBounds_toArray, List.set_cons_zero, List.set_cons_succ]
    refine calm_value (v := ?vkc14) (by kernel_rfl) ?m ?_; (case m => (intro x _; go_simp; try with_reducible rfl))
    simp only [Act.put, List.setIfInBounds_toArray, List.set_cons_zero, List.set_cons_succ]
    refine calm_nil fun x hx => ?_
    have k0 : x.heap[B]? = some (.cells #[.int .i64 0, .int .i64 0] 24 (0, 0)) := (hx.block B (by omega)).trans gB
    have g1 : (Try.prog.info? 24).map (·.size) = some (#[.int .i64 m0, .int .i64 m1] : Array Value).size := two_size
    have g2 : (#[.int .i64 0, .int .i64 0] : Array Value).size = (#[.int .i64 m0, .int .i64 m1] : Array Value).size := rfl
    have g3 : (#[.int .i64 m0, .int .i64 m1] : Array Value).all (·.oneCell') = true := two_one m0 m1
    go_wp2_with (with_reducible refine wp_store_arr rfl 24 _ _ rfl B #[.int .i64 m0, .int .i64 m1] #[.int .i64 0, .int .i64 0] rfl rfl 24 k0 g1 g2 g3 ?_; intro w3 hh3 hg3)
    refine bodyPost_ret (results_cell_row rfl _ _ B 24 _ (0, 0) _ rfl hh3 Try.underlying24 rfl (by kernel_rfl)) rfl ?_
    exact ⟨by rw [HM2.out]; rfl, by rw [HB.out]; exact (gb.trans (hx.mono (by omega))).grown hg3 (by have := hx.size; omega) (fun k hk => by injection hk with hk; omega)⟩
end Go.Proofs.Ytknmhemajmiboaa
