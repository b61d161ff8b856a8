/- The rows of package tcoef by its code: which row an event has, which event a place or an escape tells. Condition: the variables hold their tables. -/
import Derived.Test.YtologhgoojkpmaaDoorEtk
import Derived.RegionTactic
import Derived.Deep.RegionWith
namespace Go.Proofs.YtologhgoojkpmaaDoor
open Go.RowKit Go.Lib

theorem len_two : ∀ i, i < 103 → 2 ≤ lenT i := by decide +kernel
theorem amtT_ahead : ∀ last : Bool, ∀ run, run < 41 → 1 ≤ amtT last run → ∀ r, r < run → 1 ≤ amtT last r := by decide +kernel
theorem and_one (v r : Nat) (h : v % 2 = r) : bits .and .i64 (v : Int) 1 = (r : Int) := by rw [shr_one]; omega
set_option maxHeartbeats 1000000 in
theorem event_code (p v : Nat) (hp : p < 102) (w : World) (ht : HasT w) : Calls Tryd.prog 68 #[.int .i64 (p : Int), .int .i64 (v : Int)] w fun e w' => e = .returned (evVal (signT (evT p) (v % 2 == 1))) ∧ Below w.heap.size w w' := by
  obtain ⟨⟨h1, h2, h3⟩, h4, h5, h6⟩ := evT_ok p hp
  obtain ⟨la, run, amt, he⟩ : ∃ la run amt, evT p = (la, run, amt) := ⟨_, _, _, rfl⟩
  rw [he] at h1 h2 h3 h4 h5 h6 ⊢
  simp only at h1 h2 h3 h4 h5 h6
  have hin := inT_iff.1 h1
  unfold plT at h2
  have hcon := fun (r : Nat) (hr : r ≤ run) (x : World) (hx : HasT x) => amounts_code la r (by omega) x hx
  have hpos := fun (r : Nat) (hr : r < run) => amtT_ahead la run h3 (by omega) r hr
  have hmono := fun (r : Nat) (hr : r < run) => sumT_mono la (show r + 1 ≤ run by omega)
  have hsuc : ∀ r, sumT la (r + 1) = sumT la r + amtT la r := fun r => rfl
  have hs0 : sumT la 0 = 0 := rfl
  obtain ⟨r1, hr1⟩ : ∃ r1, v % 2 = r1 := ⟨_, rfl⟩
  have r12 : r1 = 0 ∨ r1 = 1 := by omega
  have AND := Lib.hid (and_one v r1 hr1)
  rw [hr1]
  obtain ⟨B, hB⟩ : ∃ B, w.heap.size = B := ⟨_, rfl⟩
  obtain ⟨x0, hx0⟩ : ∃ x0, p = baseT la + x0 := ⟨p - baseT la, by omega⟩
  have hxe : x0 = sumT la run + (amt - 1) := by omega
  generalize hsm : sumT la = sm at *
  generalize ham : amtT la = am at *
  have CON := Lib.hid hcon
  have POS := Lib.hid hpos
  have MONO := Lib.hid hmono
  have SUC := Lib.hid hsuc
  have S0 := Lib.hid hs0
  have XE := Lib.hid hxe
  have HB := Lib.hid hB
  have AM := Lib.hid hin.2
  have A1 := Lib.hid hin.1
  have EV := Lib.hid (show amt = x0 - sm run + 1 by omega)
  have hx102 : x0 ≤ 102 := by omega
  clear he h1 h2 hcon hpos hmono hsuc hs0 hxe hin hsm ham hr1 h5
  cases la with
  | false =>
    have t0 : decide (58 ≤ (p : Int)) = false := by rw [decide_eq_false_iff_not]; have := of_decide_eq_false h4.symm; omega
    have hpx : (p : Int) = 0 + (x0 : Int) := by rw [hx0]; simp [baseT]
    have hb1 : Below B w ((w.alloc (.cells #[.bool false, .int .i64 0, .int .i64 0] 50 (0, 0))).alloc (.cells #[.bool false, .int .i64 0, .int .i64 0] 50 (0, 0))) := by rw [← hB]; exact ((Below.refl _ w).alloc (Nat.le_refl _) _).alloc (by simp) _
    have hh1 : ((w.alloc (.cells #[.bool false, .int .i64 0, .int .i64 0] 50 (0, 0))).alloc (.cells #[.bool false, .int .i64 0, .int .i64 0] 50 (0, 0))).heap[B]? = some (evObj false 0 0) := by rw [← hB]; exact heap_alloc2_old w _ _
    have hh2 : ((w.alloc (.cells #[.bool false, .int .i64 0, .int .i64 0] 50 (0, 0))).alloc (.cells #[.bool false, .int .i64 0, .int .i64 0] 50 (0, 0))).heap[B + 1]? = some (evObj false 0 0) := by rw [← hB]; exact heap_alloc2_new w _ _
    have HT := Lib.hid (fun (x : World) (hx : Below B w x) => (ht.below (by rw [hB]; exact hx) : HasT x))
    have HPX := Lib.hid hpx
    clear ht hB h4 hx0 hpx
    go_enter Tryd.func68, Tryd.ntmps68
    go_wp2
    rw [HB.out]
    generalize (w.alloc (.cells #[.bool false, .int .i64 0, .int .i64 0] 50 (0, 0))).alloc (.cells #[.bool false, .int .i64 0, .int .i64 0] 50 (0, 0)) = w2 at hb1 hh1 hh2 ⊢
    go_loopw [0] (fun u wr => ∃ r x : Nat, r ≤ run ∧ u = .int .i64 x ∧ x ≤ 102 ∧ Hid (x + sm r = x0) ∧ wr.heap[B + 1]? = some (evObj false r 0) ∧ wr.heap[B]? = some (evObj false 0 0) ∧ Below B w wr) (fun u _ => (intOf u).toNat)
    case atStart => exact ⟨0, x0, Nat.zero_le _, congrArg (Value.int .i64) (by have := HPX.out; omega), hx102, Lib.hid (by rw [S0.out]; rfl), hh2, hh1, hb1⟩
    case round =>
      clear hb1 hh1 hh2
      obtain ⟨r, x, hr, rfl, hx, hxx, hh2, hh1, hb⟩ := hrel
      obtain ⟨c0, c1, c2, f0, f1, f2⟩ := ev_cells hh2
      obtain ⟨d0, d1, d2, k0, k1, k2⟩ := ev_cells hh1
      have hBl : B < wr.heap.size := (Array.getElem?_eq_some_iff.1 hh1).1
      have hc := CON.out r hr _ (HT.out _ hb)
      by_cases hlt : r < run
      · have e1 := MONO.out r hlt
        have e2 := SUC.out r
        have e3 := POS.out r hlt
        have X2 := Lib.hid (show x - am r + sm (r + 1) = x0 by have := hxx.out; have := XE.out; omega)
        have hle : am r ≤ x := by have := hxx.out; have := XE.out; omega
        clear e1 e2
        generalize am r = y at hc X2 hle e3
        have t1 : decide (y ≤ x) = true := by simpa using hle
        clear hxx
        go_wp2_with fail
        refine hc.mono ?_
        rintro e w1 ⟨rfl, rfl⟩
        go_wp2_with fail
        refine hc.mono ?_
        rintro e w1 ⟨rfl, rfl⟩
        go_wp2
        go_roundw
        case rel => exact ⟨r + 1, x - y, by omega, by go_num, by omega, X2, by rw [show ((r + 1 : Nat) : Int) = (r : Int) + 1 by omega]; exact ev_run hh2 _, ((grownBy_setCell wr ⟨B + 1, 1, none⟩ _).block B hBl (by simp)).trans hh1, hb.setCell (by simp) _⟩
        case measure => simp [intOf]; omega
      · obtain rfl : r = run := by omega
        have hlt2 : x < am r := by have := hxx.out; have := XE.out; have := AM.out; have := A1.out; omega
        have hax : (x : Int) + 1 = (amt : Int) := by have := hxx.out; have := XE.out; have := A1.out; omega
        generalize am r = y at hc hlt2
        have t1 : decide (y ≤ x) = false := by simp; omega
        have AX := Lib.hid hax
        clear hax
        have hb2 : ∀ u, Below B w (wr.setCell ⟨B + 1, 2, none⟩ u) := fun u => hb.setCell (by simp) _
        have hh3 : ∀ u, (wr.setCell ⟨B + 1, 2, none⟩ u).heap[B]? = some (evObj false 0 0) := fun u => ((grownBy_setCell wr ⟨B + 1, 2, none⟩ u).block B hBl (by simp)).trans hh1
        have hh4 : ∀ u u', ((wr.setCell ⟨B + 1, 2, none⟩ u).setCell ⟨B + 1, 2, none⟩ u').heap[B]? = some (evObj false 0 0) := fun u u' => ((grownBy_setCell (wr.setCell ⟨B + 1, 2, none⟩ u) ⟨B + 1, 2, none⟩ u').block B (Nat.lt_of_lt_of_le hBl (grownBy_setCell wr ⟨B + 1, 2, none⟩ u).size) (by simp)).trans (hh3 u)
        have BB := Lib.hid hb2
        have H3 := Lib.hid hh3
        have H4 := Lib.hid hh4
        clear hb2 hh3 hh4
        rcases r12 with rfl | rfl
        · have g1 : (bits .and .i64 (v : Int) 1 == 1) = false := by rw [AND.out]; rfl
          go_wp2_with fail
          refine hc.mono ?_
          rintro e w1 ⟨rfl, rfl⟩
          go_wp2
          exact bodyPost_ret (results_cell_row rfl _ _ B 50 _ (0, 0) _ rfl (part_set (o := 2) (.int .i64 ((x : Int) + 1)) (part_set (o := 1) (.int .i64 (r : Int)) (part_set (o := 0) (.bool false) (H3.out _)))) Tryd.underlying50 rfl (by kernel_rfl)) rfl ⟨by rw [AX.out]; rfl, by rw [HB.out]; exact (((BB.out _).setCell (Nat.le_refl _) _).setCell (Nat.le_refl _) _).setCell (Nat.le_refl _) _⟩
        · have g1 : (bits .and .i64 (v : Int) 1 == 1) = true := by rw [AND.out]; rfl
          go_wp2_with fail
          refine hc.mono ?_
          rintro e w1 ⟨rfl, rfl⟩
          go_wp2
          exact bodyPost_ret (results_cell_row rfl _ _ B 50 _ (0, 0) _ rfl (part_set (o := 2) (.int .i64 (-((x : Int) + 1))) (part_set (o := 1) (.int .i64 (r : Int)) (part_set (o := 0) (.bool false) (H4.out _ _)))) Tryd.underlying50 rfl (by kernel_rfl)) rfl ⟨by rw [AX.out]; rfl, by rw [HB.out]; exact ((((BB.out _).setCell (by simp) _).setCell (Nat.le_refl _) _).setCell (Nat.le_refl _) _).setCell (Nat.le_refl _) _⟩
  | true =>
    have t0 : decide (58 ≤ (p : Int)) = true := by rw [decide_eq_true_iff]; have := of_decide_eq_true h4.symm; omega
    have hpx : (p : Int) = 58 + (x0 : Int) := by rw [hx0]; simp [baseT]
    have hb1 : Below B w ((w.alloc (.cells #[.bool false, .int .i64 0, .int .i64 0] 50 (0, 0))).alloc (.cells #[.bool true, .int .i64 0, .int .i64 0] 50 (0, 0))) := by rw [← hB]; exact ((Below.refl _ w).alloc (Nat.le_refl _) _).alloc (by simp) _
    have hh1 : ((w.alloc (.cells #[.bool false, .int .i64 0, .int .i64 0] 50 (0, 0))).alloc (.cells #[.bool true, .int .i64 0, .int .i64 0] 50 (0, 0))).heap[B]? = some (evObj false 0 0) := by rw [← hB]; exact heap_alloc2_old w _ _
    have hh2 : ((w.alloc (.cells #[.bool false, .int .i64 0, .int .i64 0] 50 (0, 0))).alloc (.cells #[.bool true, .int .i64 0, .int .i64 0] 50 (0, 0))).heap[B + 1]? = some (evObj true 0 0) := by rw [← hB]; exact heap_alloc2_new w _ _
    have HT := Lib.hid (fun (x : World) (hx : Below B w x) => (ht.below (by rw [hB]; exact hx) : HasT x))
    have HPX := Lib.hid hpx
    clear ht hB h4 hx0 hpx
    go_enter Tryd.func68, Tryd.ntmps68
    go_wp2
    rw [HB.out]
    generalize (w.alloc (.cells #[.bool false, .int .i64 0, .int .i64 0] 50 (0, 0))).alloc (.cells #[.bool true, .int .i64 0, .int .i64 0] 50 (0, 0)) = w2 at hb1 hh1 hh2 ⊢
    go_loopw [0] (fun u wr => ∃ r x : Nat, r ≤ run ∧ u = .int .i64 x ∧ x ≤ 102 ∧ Hid (x + sm r = x0) ∧ wr.heap[B + 1]? = some (evObj true r 0) ∧ wr.heap[B]? = some (evObj false 0 0) ∧ Below B w wr) (fun u _ => (intOf u).toNat)
    case atStart => exact ⟨0, x0, Nat.zero_le _, congrArg (Value.int .i64) (by have := HPX.out; omega), hx102, Lib.hid (by rw [S0.out]; rfl), hh2, hh1, hb1⟩
    case round =>
      clear hb1 hh1 hh2
      obtain ⟨r, x, hr, rfl, hx, hxx, hh2, hh1, hb⟩ := hrel
      obtain ⟨c0, c1, c2, f0, f1, f2⟩ := ev_cells hh2
      obtain ⟨d0, d1, d2, k0, k1, k2⟩ := ev_cells hh1
      have hBl : B < wr.heap.size := (Array.getElem?_eq_some_iff.1 hh1).1
      have hc := CON.out r hr _ (HT.out _ hb)
      by_cases hlt : r < run
      · have e1 := MONO.out r hlt
        have e2 := SUC.out r
        have e3 := POS.out r hlt
        have X2 := Lib.hid (show x - am r + sm (r + 1) = x0 by have := hxx.out; have := XE.out; omega)
        have hle : am r ≤ x := by have := hxx.out; have := XE.out; omega
        clear e1 e2
        generalize am r = y at hc X2 hle e3
        have t1 : decide (y ≤ x) = true := by simpa using hle
        clear hxx
        go_wp2_with fail
        refine hc.mono ?_
        rintro e w1 ⟨rfl, rfl⟩
        go_wp2_with fail
        refine hc.mono ?_
        rintro e w1 ⟨rfl, rfl⟩
        go_wp2
        go_roundw
        case rel => exact ⟨r + 1, x - y, by omega, by go_num, by omega, X2, by rw [show ((r + 1 : Nat) : Int) = (r : Int) + 1 by omega]; exact ev_run hh2 _, ((grownBy_setCell wr ⟨B + 1, 1, none⟩ _).block B hBl (by simp)).trans hh1, hb.setCell (by simp) _⟩
        case measure => simp [intOf]; omega
      · obtain rfl : r = run := by omega
        have hlt2 : x < am r := by have := hxx.out; have := XE.out; have := AM.out; have := A1.out; omega
        have hax : (x : Int) + 1 = (amt : Int) := by have := hxx.out; have := XE.out; have := A1.out; omega
        generalize am r = y at hc hlt2
        have t1 : decide (y ≤ x) = false := by simp; omega
        have AX := Lib.hid hax
        clear hax
        have hb2 : ∀ u, Below B w (wr.setCell ⟨B + 1, 2, none⟩ u) := fun u => hb.setCell (by simp) _
        have hh3 : ∀ u, (wr.setCell ⟨B + 1, 2, none⟩ u).heap[B]? = some (evObj false 0 0) := fun u => ((grownBy_setCell wr ⟨B + 1, 2, none⟩ u).block B hBl (by simp)).trans hh1
        have hh4 : ∀ u u', ((wr.setCell ⟨B + 1, 2, none⟩ u).setCell ⟨B + 1, 2, none⟩ u').heap[B]? = some (evObj false 0 0) := fun u u' => ((grownBy_setCell (wr.setCell ⟨B + 1, 2, none⟩ u) ⟨B + 1, 2, none⟩ u').block B (Nat.lt_of_lt_of_le hBl (grownBy_setCell wr ⟨B + 1, 2, none⟩ u).size) (by simp)).trans (hh3 u)
        have BB := Lib.hid hb2
        have H3 := Lib.hid hh3
        have H4 := Lib.hid hh4
        clear hb2 hh3 hh4
        rcases r12 with rfl | rfl
        · have g1 : (bits .and .i64 (v : Int) 1 == 1) = false := by rw [AND.out]; rfl
          go_wp2_with fail
          refine hc.mono ?_
          rintro e w1 ⟨rfl, rfl⟩
          go_wp2
          exact bodyPost_ret (results_cell_row rfl _ _ B 50 _ (0, 0) _ rfl (part_set (o := 2) (.int .i64 ((x : Int) + 1)) (part_set (o := 1) (.int .i64 (r : Int)) (part_set (o := 0) (.bool true) (H3.out _)))) Tryd.underlying50 rfl (by kernel_rfl)) rfl ⟨by rw [AX.out]; rfl, by rw [HB.out]; exact (((BB.out _).setCell (Nat.le_refl _) _).setCell (Nat.le_refl _) _).setCell (Nat.le_refl _) _⟩
        · have g1 : (bits .and .i64 (v : Int) 1 == 1) = true := by rw [AND.out]; rfl
          go_wp2_with fail
          refine hc.mono ?_
          rintro e w1 ⟨rfl, rfl⟩
          go_wp2
          exact bodyPost_ret (results_cell_row rfl _ _ B 50 _ (0, 0) _ rfl (part_set (o := 2) (.int .i64 (-((x : Int) + 1))) (part_set (o := 1) (.int .i64 (r : Int)) (part_set (o := 0) (.bool true) (H4.out _ _)))) Tryd.underlying50 rfl (by kernel_rfl)) rfl ⟨by rw [AX.out]; rfl, by rw [HB.out]; exact ((((BB.out _).setCell (by simp) _).setCell (Nat.le_refl _) _).setCell (Nat.le_refl _) _).setCell (Nat.le_refl _) _⟩
/-! ### What an escape tells -/
set_option maxHeartbeats 1000000 in
theorem escaped_code (v : Nat) (w : World) : Calls Tryd.prog 69 #[.int .i64 (v : Int)] w fun e w' => e = .returned (evVal (escT v)) ∧ Below w.heap.size w w' := by
  obtain ⟨a, ha⟩ : ∃ a : Nat, v / 256 = a := ⟨_, rfl⟩
  obtain ⟨l, hl⟩ : ∃ l : Nat, v % 256 = l := ⟨_, rfl⟩
  obtain ⟨r, hr⟩ : ∃ r : Nat, a % 64 = r := ⟨_, rfl⟩
  obtain ⟨b, hb⟩ : ∃ b : Nat, a / 64 % 2 = b := ⟨_, rfl⟩
  have hr' : v / 256 % 64 = r := by rw [ha, hr]
  have hb' : v / 16384 % 2 = b := by rw [← hb, ← ha, Nat.div_div_eq_div_mul]
  have E := Lib.hid (show evVal (escT v) = .agg #[.bool (b == 1), .int .i64 (r : Int), .int .i64 (if 127 < l then (l : Int) - 256 else (l : Int))] by unfold evVal escT; simp only [hr', hb', hl])
  rw [E.out]
  have q1 : bits .and .i64 (v : Int) 255 = (l : Int) := by rw [show (255 : Int) = 2 ^ 8 - 1 by decide, and_low _ 8 (by omega)]; omega
  have q2 : (v : Int) / 2 ^ 8 = (a : Int) := by omega
  have q2' : (v : Int) / 256 = (a : Int) := by omega
  have q3 : bits .and .i64 (a : Int) 63 = (r : Int) := by rw [and_63]; omega
  have q4 : bits .and .i64 ((a : Int) / 64) 1 = (b : Int) := by rw [shr_one]; omega
  have q5 : ((b : Int) == 1) = (b == 1) := by rw [Bool.eq_iff_iff, beq_iff_eq, beq_iff_eq]; omega
  have Q1 := Lib.hid q1
  have Q2 := Lib.hid q2'
  have Q3 := Lib.hid q3
  have Q4 := Lib.hid q4
  have Q5 := Lib.hid q5
  have h256 : l < 256 := by omega
  have hbw : ∀ o, Below w.heap.size w (w.alloc o) := fun o => (Below.refl _ w).alloc (Nat.le_refl _) o
  have hh : ∀ cs, (w.alloc (.cells cs 50 (0, 0))).heap[w.heap.size]? = some (.cells cs 50 (0, 0)) := fun cs => heap_alloc_new w _
  by_cases h127 : 127 < l
  · have t0 : decide (127 < bits .and .i64 (v : Int) 255) = true := by rw [q1]; simp; omega
    have r0 : 0 ≤ bits .and .i64 (v : Int) 255 := by omega
    have r1 : bits .and .i64 (v : Int) 255 ≤ 255 := by omega
    rw [if_pos h127]
    clear E ha hl hr hb hr' hb' q1 q2 q2' q3 q4 q5 h127
    go_enter Tryd.func69, Tryd.ntmps69
    go_wp2
    exact bodyPost_ret (results_cell_row rfl _ _ w.heap.size 50 _ (0, 0) _ rfl (hh _) Tryd.underlying50 rfl (by kernel_rfl)) rfl ⟨by rw [Q2.out, Q4.out, Q3.out, Q1.out, Q5.out], hbw _⟩
  · have t0 : decide (127 < bits .and .i64 (v : Int) 255) = false := by rw [q1]; simp; omega
    have r0 : 0 ≤ bits .and .i64 (v : Int) 255 := by omega
    have r1 : bits .and .i64 (v : Int) 255 ≤ 255 := by omega
    rw [if_neg h127]
    clear E ha hl hr hb hr' hb' q1 q2 q2' q3 q4 q5 h127
    go_enter Tryd.func69, Tryd.ntmps69
    go_wp2
    exact bodyPost_ret (results_cell_row rfl _ _ w.heap.size 50 _ (0, 0) _ rfl (hh _) Tryd.underlying50 rfl (by kernel_rfl)) rfl ⟨by rw [Q2.out, Q4.out, Q3.out, Q1.out, Q5.out], hbw _⟩

/-! ### The number of an event's row -/
theorem or_add (y m r k : Nat) (hm : m = 2 ^ k) (h : r < m) (hy : m * y + r < 4294967296) : bits .or .i64 ((y : Int) * (m : Int)) (r : Int) = ((m * y + r : Nat) : Int) := by
  have hor := Nat.two_pow_add_eq_or_of_lt (i := k) (b := r) (by rw [← hm]; exact h) y
  rw [show (y : Int) * (m : Int) = ((m * y : Nat) : Int) by rw [Int.mul_comm]; simp]
  show IntKind.i64.wrap ((BitVec.ofInt 64 ((m * y : Nat) : Int) ||| BitVec.ofInt 64 ((r : Nat) : Int)).toNat : Int) = _
  rw [BitVec.ofInt_natCast, BitVec.ofInt_natCast, BitVec.toNat_or, BitVec.toNat_ofNat, BitVec.toNat_ofNat, Nat.mod_eq_of_lt (by omega), Nat.mod_eq_of_lt (by omega)]
  rw [← hm] at hor
  rw [← hor, IntKind.wrap_i64]
  omega
set_option maxHeartbeats 1000000 in
theorem told_code (last : Bool) (r : Nat) (level : Int) (hr : r < 64) (hl : -128 ≤ level ∧ level ≤ 127) (w : World) (hp : HasT w) : Calls Tryd.prog 49 #[.agg #[.bool last, .int .i64 (r : Int), .int .i64 level]] w fun e w' =>
    e = .returned (.tuple #[.int .i64 (numT last r level : Nat), .int .i64 (digT last r level : Nat)]) ∧ Below w.heap.size w w' := by
  have hpl := fun x hx => placed_code last r level hr hl x hx
  have HP := Lib.hid (fun (x : World) (hx : Below w.heap.size w x) => (hp.below hx : HasT x))
  obtain ⟨a, ha⟩ : ∃ a : Nat, level.natAbs = a := ⟨_, rfl⟩
  rw [ha] at hpl
  cases hin : inT last r a with
  | true =>
    obtain ⟨p, hpp⟩ : ∃ p, plT last r a = p := ⟨_, rfl⟩
    have hp102 : p < 102 := by rw [← hpp]; exact plT_lt hr hin
    have F1 := Lib.hid (show numT last r level = 2 * codeT p + (if level < 0 then 1 else 0) by unfold numT; rw [ha, hin, if_pos rfl, hpp])
    have F2 := Lib.hid (show digT last r level = lenT p + 1 by unfold digT; rw [ha, hin, if_pos rfl, hpp])
    rw [hin, if_pos rfl, hpp] at hpl
    have hco := fun x hx => coded_code p (by omega) x hx
    have hdi := fun x hx => digits_place p (by omega) x hx
    rw [if_neg (by omega)] at hdi
    rw [F1.out, F2.out]
    obtain ⟨b0, b1, b2, b3⟩ := code_fits p (by omega)
    have hdig := fun (b : Bool) x => digit_one b x
    obtain ⟨s, hs⟩ : ∃ s : Bool, decide (level < 0) = s := ⟨_, rfl⟩
    have ho := or_add (codeT p) 2 s.toNat 1 rfl (by cases s <;> decide) (by cases s <;> simp <;> omega)
    have hsn : (if level < 0 then 1 else 0 : Nat) = s.toNat := by rw [← hs]; by_cases h : level < 0 <;> simp [h]
    rw [hsn]
    generalize codeT p = x at hco b3 ho ⊢
    generalize lenT p = y at hco hdi b0 b1 ⊢
    have O := Lib.hid (show bits .or .i64 ((x : Int) * 2) (s.toNat : Int) = _ from ho)
    have SN := Lib.hid hsn
    have hb1 : Below w.heap.size w (w.alloc (.cells #[.bool last, .int .i64 (r : Int), .int .i64 level] 50 (0, 0))) := (Below.refl _ w).alloc (Nat.le_refl _) _
    have hp1 := HP.out _ hb1
    have hh : ∀ x, Below (w.heap.size + 1) (w.alloc (.cells #[.bool last, .int .i64 (r : Int), .int .i64 level] 50 (0, 0))) x → x.heap[w.heap.size]? = some (evObj last r level) := fun x hx => (hx.block w.heap.size (by omega)).trans (heap_alloc_new w _)
    have HH := Lib.hid hh
    have hz1 : (w.alloc (.cells #[.bool last, .int .i64 (r : Int), .int .i64 level] 50 (0, 0))).heap.size = w.heap.size + 1 := by simp
    have HZ := Lib.hid hz1
    clear F1 F2 hin ha hpp hp ho b2 hsn hh hz1
    go_enter Tryd.func49, Tryd.ntmps49
    go_wp2_with fail
    refine (hpl _ hp1).mono ?_
    rintro e w1 ⟨rfl, hb2⟩
    rw [HZ.out] at hb2
    have hb3 := hb1.trans (hb2.mono (by omega))
    go_wp2_with fail
    refine (hco _ (HP.out _ hb3)).mono ?_
    rintro e w2 ⟨rfl, hb4⟩
    have hz4 := hb3.size
    have hb5 := hb2.trans (hb4.mono (by have := hb2.size; rw [HZ.out] at this; exact this))
    have hb6 := hb3.trans (hb4.mono hz4)
    obtain ⟨c0, c1, c2, _, _, _⟩ := ev_cells (HH.out _ hb5)
    have hp6 := HP.out _ hb6
    clear hb2 hb3 hb4 hb5 hpl hco hp1 hb1
    go_wp2_with fail
    refine (hdig _ _).mono ?_
    rintro e w3 ⟨rfl, rfl⟩
    go_wp2_with fail
    refine (hdi _ hp6).mono ?_
    rintro e w4 ⟨rfl, hb7⟩
    go_wp2
    go_ret2
    exact ⟨ret_two O.out rfl, hb6.trans (hb7.mono hb6.size)⟩
  | false =>
    have F1 := Lib.hid (show numT last r level = ((6 + last.toNat) * 64 + r) * 256 + (level % 256).toNat by unfold numT; rw [ha, hin, if_neg (by decide)])
    have F2 := Lib.hid (show digT last r level = 22 by unfold digT; rw [ha, hin, if_neg (by decide)])
    rw [hin, if_neg (by decide)] at hpl
    have hco := fun x hx => coded_code 102 (by omega) x hx
    have hdi := fun x hx => digits_place 102 (by omega) x hx
    rw [if_pos rfl] at hdi
    rw [show codeT 102 = 3 by decide +kernel] at hco
    rw [F1.out, F2.out]
    have hdig := fun x => digit_one last x
    obtain ⟨s, hs⟩ : ∃ s, (level % 256).toNat = s := ⟨_, rfl⟩
    have hs256 : s < 256 := by omega
    have hand : bits .and .i64 level 255 = (s : Int) := by rw [show (255 : Int) = 2 ^ 8 - 1 by decide, and_low _ 8 (by omega)]; omega
    have o1 := or_add 3 2 last.toNat 1 rfl (by cases last <;> decide) (by cases last <;> simp)
    obtain ⟨y, hy⟩ : ∃ y, 6 + last.toNat = y := ⟨_, rfl⟩
    rw [show 2 * 3 + last.toNat = y by omega] at o1
    have hy7 : y ≤ 7 := by rw [← hy]; cases last <;> decide
    have o2 := or_add y 64 r 6 rfl hr (by omega)
    have o3 := or_add (64 * y + r) 256 s 8 rfl hs256 (by omega)
    rw [hs, hy, show (y * 64 + r) * 256 + s = 256 * (64 * y + r) + s by omega]
    obtain ⟨z, hz⟩ : ∃ z, 64 * y + r = z := ⟨_, rfl⟩
    rw [hz] at o2 o3 ⊢
    have hz512 : z < 512 := by omega
    have O1 := Lib.hid (show bits .or .i64 6 (last.toNat : Int) = (y : Int) from o1)
    have O2 := Lib.hid (show bits .or .i64 ((y : Int) * 64) (r : Int) = (z : Int) from o2)
    have O3 := Lib.hid (show bits .or .i64 ((z : Int) * 256) (s : Int) = _ from o3)
    have AND := Lib.hid hand
    have hb1 : Below w.heap.size w (w.alloc (.cells #[.bool last, .int .i64 (r : Int), .int .i64 level] 50 (0, 0))) := (Below.refl _ w).alloc (Nat.le_refl _) _
    have hp1 := HP.out _ hb1
    have hh : ∀ x, Below (w.heap.size + 1) (w.alloc (.cells #[.bool last, .int .i64 (r : Int), .int .i64 level] 50 (0, 0))) x → x.heap[w.heap.size]? = some (evObj last r level) := fun x hx => (hx.block w.heap.size (by omega)).trans (heap_alloc_new w _)
    have HH := Lib.hid hh
    have hz1 : (w.alloc (.cells #[.bool last, .int .i64 (r : Int), .int .i64 level] 50 (0, 0))).heap.size = w.heap.size + 1 := by simp
    have HZ := Lib.hid hz1
    clear F1 F2 hin ha hp hh hz1 hs hand o1 o2 o3 hy hz
    go_enter Tryd.func49, Tryd.ntmps49
    go_wp2_with fail
    refine (hpl _ hp1).mono ?_
    rintro e w1 ⟨rfl, hb2⟩
    rw [HZ.out] at hb2
    have hb3 := hb1.trans (hb2.mono (by omega))
    go_wp2_with fail
    refine (hco _ (HP.out _ hb3)).mono ?_
    rintro e w2 ⟨rfl, hb4⟩
    have hz4 := hb3.size
    have hb5 := hb2.trans (hb4.mono (by have := hb2.size; rw [HZ.out] at this; exact this))
    have hb6 := hb3.trans (hb4.mono hz4)
    obtain ⟨c0, c1, c2, _, _, _⟩ := ev_cells (HH.out _ hb5)
    have hp6 := HP.out _ hb6
    clear hb2 hb3 hb4 hb5 hpl hco hp1 hb1
    go_wp2_with fail
    refine (hdig _).mono ?_
    rintro e w3 ⟨rfl, rfl⟩
    have p1 := O1.out
    have p2 := O2.out
    have p3 := AND.out
    go_wp2_with fail
    have hp6d : HasT w2.drew := hp6
    have hb6d : Below w.heap.size w w2.drew := hb6.drew
    have c2d : w2.drew.cell? ⟨w.heap.size, 2, none⟩ = some (.int .i64 level) := c2
    have hlt : w.heap.size < w2.drew.heap.size := World.block_lt_of_cell? _ ⟨w.heap.size, 2, none⟩ c2d
    have CELL := Lib.hid (fun (x : World) (hx : Below w2.drew.heap.size w2.drew x) => ((hx.cell (p := ⟨w.heap.size, 2, none⟩) hlt).trans c2d : x.cell? ⟨w.heap.size, 2, none⟩ = some (.int .i64 level)))
    have sw : IntKind.i64.wrap ((z : Int) * 256) = (z : Int) * 256 := IntWalk.i64_in _ (by omega)
    go_region_with (go_at_call 63; refine (hdi _ (by assumption)).mono ?_; rintro e w4 ⟨rfl, hb7⟩; have c4 := CELL.out _ hb7)
    all_goals
      go_wp2
      go_ret2
      exact ⟨ret_two O3.out rfl, hb6d.trans (hb7.mono hb6d.size)⟩
theorem num_fits (last : Bool) (r : Nat) (level : Int) (hr : r < 64) : 3 ≤ digT last r level ∧ digT last r level ≤ 22 ∧ numT last r level < 2 ^ digT last r level := by
  unfold digT numT
  cases hin : inT last r level.natAbs with
  | true =>
    simp only [if_true]
    obtain ⟨b0, b1, b2, _⟩ := code_fits (plT last r level.natAbs) (Nat.lt_trans (plT_lt hr hin) (by decide))
    have b4 := len_two _ (Nat.lt_trans (plT_lt hr hin) (show 102 < 103 by decide))
    refine ⟨by omega, by omega, ?_⟩
    rw [Nat.pow_succ]
    split <;> omega
  | false =>
    simp only [Bool.false_eq_true, if_false]
    refine ⟨by decide, by decide, ?_⟩
    have h1 : last.toNat ≤ 1 := by cases last <;> decide
    have h2 : (level % 256).toNat < 256 := by omega
    omega
set_option maxHeartbeats 1000000 in
theorem erow_code (last : Bool) (run level : Int) (w : World) (hp : HasT w) : Calls Tryd.prog 36 #[.agg #[.bool last, .int .i64 run, .int .i64 level]] w fun e w' =>
    e = .returned (.tuple #[.string (eventAt last run level), .bool (!(eventAt last run level).data.toList.isEmpty)]) ∧ Below w.heap.size w w' := by
  have hri := fun x => right_code last run level x
  have HP := Lib.hid (fun (x : World) (hx : Below w.heap.size w x) => (hp.below hx : HasT x))
  have hb1 : Below w.heap.size w (w.alloc (.cells #[.bool last, .int .i64 run, .int .i64 level] 50 (0, 0))) := (Below.refl _ w).alloc (Nat.le_refl _) _
  have hh : ∀ x, Below (w.heap.size + 1) (w.alloc (.cells #[.bool last, .int .i64 run, .int .i64 level] 50 (0, 0))) x → x.heap[w.heap.size]? = some (evObj last run level) := fun x hx => (hx.block w.heap.size (by omega)).trans (heap_alloc_new w _)
  have HH := Lib.hid hh
  have hz1 : (w.alloc (.cells #[.bool last, .int .i64 run, .int .i64 level] 50 (0, 0))).heap.size = w.heap.size + 1 := by simp
  have HZ := Lib.hid hz1
  cases hr : rightT run level with
  | false =>
    have F := Lib.hid (show eventAt last run level = ⟨#[]⟩ by unfold eventAt; rw [hr, if_neg (by decide)])
    rw [F.out]
    rw [hr] at hri
    clear hr hp hh hz1
    go_enter Tryd.func36, Tryd.ntmps36
    go_wp2_with fail
    refine (hri _).mono ?_
    rintro e w1 ⟨rfl, hb2⟩
    rw [HZ.out] at hb2
    go_wp2
    go_ret2
    exact ⟨rfl, hb1.trans (hb2.mono (by omega))⟩
  | true =>
    obtain ⟨r0, r1, l0, l1, l2⟩ := rightT_iff.1 hr
    obtain ⟨r, rfl⟩ : ∃ r : Nat, run = r := ⟨run.toNat, by omega⟩
    have F := Lib.hid (show eventAt last r level = ⟨(rowOf (numT last r level) (digT last r level)).toArray⟩ by unfold eventAt; rw [hr, if_pos rfl]; rfl)
    have hto := fun x hx => told_code last r level (by omega) ⟨by omega, l1⟩ x hx
    obtain ⟨f1, f2, f3⟩ := num_fits last r level (by omega)
    have G := Lib.hid (show (!(eventAt last r level).data.toList.isEmpty) = true by
      rw [F.out]
      show (!(rowOf (numT last r level) (digT last r level)).isEmpty) = true
      cases hl : rowOf (numT last r level) (digT last r level) with
      | nil =>
        have e := rowOf_length (numT last r level) (digT last r level)
        rw [hl] at e
        simp at e
        omega
      | cons a l => rfl)
    rw [G.out, F.out]
    rw [hr] at hri
    generalize numT last r level = x at hto f3 ⊢
    generalize digT last r level = y at hto f1 f2 f3 ⊢
    have hx22 : x < 4194304 := Nat.lt_of_lt_of_le f3 (Nat.pow_le_pow_right (by decide) f2)
    have hrow := fun w => row_code (x : Int) (y : Int) w (by omega) (by
      unfold fitsIn
      rw [decide_eq_true_iff]
      refine ⟨by omega, by omega, by omega, ?_⟩
      rw [Int.toNat_natCast]
      exact_mod_cast f3)
    simp only [Int.toNat_natCast] at hrow
    clear hr hp hh hz1 F G f3
    go_enter Tryd.func36, Tryd.ntmps36
    go_wp2_with fail
    refine (hri _).mono ?_
    rintro e w1 ⟨rfl, hb2⟩
    rw [HZ.out] at hb2
    have hb3 := hb1.trans (hb2.mono (by omega))
    obtain ⟨c0, c1, c2, _, _, _⟩ := ev_cells (HH.out _ hb2)
    go_wp2_with fail
    refine (hto _ (HP.out _ hb3)).mono ?_
    rintro e w2 ⟨rfl, hb4⟩
    have hb5 := hb3.trans (hb4.mono hb3.size)
    clear c0 c1 c2 hb2 hb1
    go_wp2_with fail
    refine (hrow _).mono ?_
    rintro e w3 ⟨rfl, hb6⟩
    go_wp2
    go_ret2
    exact ⟨rfl, hb5.trans (hb6.mono hb5.size)⟩
end Go.Proofs.YtologhgoojkpmaaDoor
