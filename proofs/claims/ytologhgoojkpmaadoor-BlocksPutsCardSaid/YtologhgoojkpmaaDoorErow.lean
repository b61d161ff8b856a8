/- The document's own answer of layer 9 (tcoef): whether an event is right, and its row. No condition but the callers' own ranges. -/
import Derived.Test.YtologhgoojkpmaaDoorEref
import Derived.StillTailTactics
import Derived.Deep.CutRange
import Derived.Deep.DeepCutAuto
namespace Go.Proofs.YtologhgoojkpmaaDoor
open Go.RowKit Go.Lib

def hasT (last : Bool) (run amt : Nat) : ByteArray := if inT last run amt then rowT (plT last run amt) else ⟨#[]⟩
theorem rawL_len (l : List ByteArray) : (rawL l).length = l.length := List.length_map _
theorem placesT_len (last : Bool) (run : Nat) : (placesT last run).length = amtT last run := by unfold placesT; rw [List.length_map, List.length_range]
theorem rowsP_len (last : Bool) (run : Nat) : (rowsP last run).length = amtT last run := by unfold rowsP; rw [List.length_map, placesT_len]
/-- A row out of those of a Last and a Run. -/
theorem rawL_at {l : List ByteArray} {last : Bool} {run : Nat} (h : rawL l = rowsP last run) {i : Nat} (hi : i < amtT last run) : ∃ h2 : i < l.length, l[i] = rowT (baseT last + sumT last run + i) := by
  have hl : l.length = amtT last run := by rw [← rawL_len, h, rowsP_len]
  refine ⟨by omega, ba_eq.2 ?_⟩
  have h1 : (rawL l)[i]? = some l[i].data.toList := by unfold rawL; rw [List.getElem?_map, List.getElem?_eq_getElem (by omega)]; rfl
  rw [h] at h1
  unfold rowsP placesT at h1
  rw [List.getElem?_map, List.getElem?_map, List.getElem?_range hi] at h1
  simp only [Option.map_some, Option.some.injEq] at h1
  exact h1.symm
set_option maxRecDepth 100000 in
set_option maxHeartbeats 1000000 in
theorem has_page (last : Bool) (run amt : Nat) (hr : run < 64) (h1 : 1 ≤ amt) (h2 : amt ≤ 200) (w : World) : Calls Tryd.prog 39 #[.bool last, .int .i64 (run : Int), .int .i64 (amt : Int)] w fun e w' => e = .returned (.string (hasT last run amt)) ∧ Below w.heap.size w w' := by
  have hro := fun x => rows_page last run hr x
  by_cases h : amt ≤ amtT last run
  · have F := Lib.hid (show hasT last run amt = rowT (plT last run amt) by unfold hasT; rw [if_pos (inT_iff.2 ⟨h1, h⟩)])
    rw [F.out]
    obtain ⟨i, rfl⟩ : ∃ i, amt = i + 1 := ⟨amt - 1, by omega⟩
    have hat := fun (l : List ByteArray) (hl : rawL l = rowsP last run) => rawL_at hl (i := i) (by omega)
    have hpl : plT last run (i + 1) = baseT last + sumT last run + i := by unfold plT; omega
    rw [hpl]
    generalize rowT (baseT last + sumT last run + i) = y at hat ⊢
    have AT := Lib.hid hat
    clear hat F hpl h
    go_enter Tryd.func39, Tryd.ntmps39
    go_wp2_with fail
    refine (hro _).mono ?_
    rintro e w1 ⟨l, q, cap, rfl, hl, hst, _, hb⟩
    obtain ⟨hil, hy⟩ := AT.out l hl
    obtain ⟨b, o, rfl, _, hc⟩ := hst.at (by omega)
    have c0 : w1.cell? ⟨b, o + i, none⟩ = some (.string y) := (hc i hil).trans (by rw [hy])
    have t0 : decide ((l.length : Int) < (i : Int) + 1) = false := by simp; omega
    obtain ⟨n, hn⟩ : ∃ n, l.length = n := ⟨_, rfl⟩
    rw [hn] at t0 hil ⊢
    clear hc hl hst hy hn
    go_wp2
    go_ret
    exact ⟨rfl, hb⟩
  · have F := Lib.hid (show hasT last run amt = ⟨#[]⟩ by unfold hasT; rw [if_neg (by rw [inT_iff]; omega)])
    rw [F.out]
    have hln := fun (l : List ByteArray) (hl : rawL l = rowsP last run) => (show l.length < amt by rw [← rawL_len, hl, rowsP_len]; omega)
    clear F h
    go_enter Tryd.func39, Tryd.ntmps39
    go_wp2_with fail
    refine (hro _).mono ?_
    rintro e w1 ⟨l, q, cap, rfl, hl, hst, _, hb⟩
    have hlt := hln l hl
    have t0 : decide ((l.length : Int) < (amt : Int)) = true := by simp; omega
    generalize l.length = n at hlt t0 ⊢
    have t1 : decide (n < amt) = true := by simpa using hlt
    clear hl hst
    go_wp2
    go_ret
    exact ⟨rfl, hb⟩
theorem sign_page (n : Int) (w : World) : Calls Tryd.prog 41 #[.int .i64 n] w fun e w' => e = .returned (.string (if n < 0 then ⟨#[49]⟩ else ⟨#[48]⟩)) ∧ w = w' := by
  by_cases h : n < 0
  · have t0 : decide (n < 0) = true := by simpa using h
    rw [if_pos h]
    go_enter Tryd.func41, Tryd.ntmps41
    go_wp2
    go_ret
    exact ⟨rfl, rfl⟩
  · have t0 : decide (n < 0) = false := by simpa using h
    rw [if_neg h]
    go_enter Tryd.func41, Tryd.ntmps41
    go_wp2
    go_ret
    exact ⟨rfl, rfl⟩
theorem amount_page (n : Int) (h1 : -200 ≤ n) (h2 : n ≤ 200) (w : World) : Calls Tryd.prog 40 #[.int .i64 n] w fun e w' => e = .returned (.int .i64 (n.natAbs : Nat)) ∧ w = w' := by
  by_cases h : n < 0
  · have t0 : decide (n < 0) = true := by simpa using h
    have F := Lib.hid (show ((n.natAbs : Nat) : Int) = -n by omega)
    rw [F.out]
    go_enter Tryd.func40, Tryd.ntmps40
    go_wp2
    go_ret
    exact ⟨ret_int (by rfl), rfl⟩
  · have t0 : decide (n < 0) = false := by simpa using h
    have F := Lib.hid (show ((n.natAbs : Nat) : Int) = n by omega)
    rw [F.out]
    go_enter Tryd.func40, Tryd.ntmps40
    go_wp2
    go_ret
    exact ⟨rfl, rfl⟩

/-! ### The row -/
theorem rowOf_cat (c d n m : Nat) (hc : c < 2 ^ n) (hd : d < 2 ^ m) : rowOf c n ++ rowOf d m = rowOf (c * 2 ^ m + d) (n + m) := by
  have h := row_num (rowOf c n ++ rowOf d m) (by rw [isRow_append, rowOf_row, rowOf_row]; rfl)
  rw [List.length_append, rowOf_length, rowOf_length, num_append, rowOf_length, num_rowOf, num_rowOf, Nat.mod_eq_of_lt hc, Nat.mod_eq_of_lt hd] at h
  exact h.symm
theorem event_table {last : Bool} {run : Nat} {level : Int} (hr : rightT run level = true) (hin : inT last run level.natAbs = true) : eventAt last run level = rowT (plT last run level.natAbs) ++ (if level < 0 then ⟨#[49]⟩ else ⟨#[48]⟩) := by
  obtain ⟨r0, r1, _⟩ := rightT_iff.1 hr
  obtain ⟨b0, b1, b2, _⟩ := code_fits (plT last run level.natAbs) (Nat.lt_trans (plT_lt (by omega) hin) (by decide))
  unfold eventAt numT digT rowT
  rw [if_pos hr, Int.toNat_natCast, hin, if_pos rfl, if_pos rfl]
  by_cases h : level < 0
  · rw [if_pos h, if_pos h, show (⟨#[49]⟩ : ByteArray) = ⟨(rowOf 1 1).toArray⟩ from rfl, bytes_append, rowOf_cat _ _ _ _ b2 (by decide), Nat.mul_comm]
  · rw [if_neg h, if_neg h, show (⟨#[48]⟩ : ByteArray) = ⟨(rowOf 0 1).toArray⟩ from rfl, bytes_append, rowOf_cat _ _ _ _ b2 (by decide), Nat.mul_comm]
theorem event_escape {last : Bool} {run : Nat} {level : Int} (hr : rightT run level = true) (hin : inT last run level.natAbs = false) :
    eventAt last run level = ⟨#[48, 48, 48, 48, 48, 49, 49]⟩ ++ (if last then ⟨#[49]⟩ else ⟨#[48]⟩) ++ ⟨(rowOf run 6).toArray⟩ ++ ⟨(rowOf (level % 256).toNat 8).toArray⟩ := by
  obtain ⟨r0, r1, _⟩ := rightT_iff.1 hr
  have h6 : (6 + last.toNat) < 2 ^ 8 := by cases last <;> decide
  unfold eventAt numT digT
  rw [if_pos hr, Int.toNat_natCast, hin, if_neg (by decide), if_neg (by decide)]
  rw [show (⟨#[48, 48, 48, 48, 48, 49, 49]⟩ : ByteArray) ++ (if last then ⟨#[49]⟩ else ⟨#[48]⟩) = ⟨(rowOf (6 + last.toNat) 8).toArray⟩ by cases last <;> decide +kernel]
  rw [bytes_append (rowOf (6 + last.toNat) 8), rowOf_cat _ _ _ _ h6 (by omega), bytes_append, rowOf_cat _ _ _ _ (by cases last <;> simp <;> omega) (by omega)]
set_option maxRecDepth 100000 in
set_option maxHeartbeats 1000000 in
theorem errow_page (last : Bool) (run level : Int) (w : World) : Calls Tryd.prog 29 #[.agg #[.bool last, .int .i64 run, .int .i64 level]] w fun e w' => e = .returned (.string (eventAt last run level)) ∧ Below w.heap.size w w' := by
  have hri := fun x => right_page last run level x
  have hb1 : Below w.heap.size w (w.alloc (.cells #[.bool last, .int .i64 run, .int .i64 level] 50 (0, 0))) := (Below.refl _ w).alloc (Nat.le_refl _) _
  have hh : ∀ x, Below (w.heap.size + 1) (w.alloc (.cells #[.bool last, .int .i64 run, .int .i64 level] 50 (0, 0))) x → x.heap[w.heap.size]? = some (evObj last run level) := fun x hx => (hx.block w.heap.size (by omega)).trans (heap_alloc_new w _)
  have HH := Lib.hid hh
  have hz1 : (w.alloc (.cells #[.bool last, .int .i64 run, .int .i64 level] 50 (0, 0))).heap.size = w.heap.size + 1 := by simp
  have HZ := Lib.hid hz1
  cases hr : rightT run level with
  | false =>
    have F := Lib.hid (show eventAt last run level = ⟨#[]⟩ by unfold eventAt; rw [hr, if_neg (by decide)])
    rw [F.out]
    rw [hr] at hri
    clear hr hh hz1
    go_enter Tryd.func29, Tryd.ntmps29
    go_wp2_with fail
    refine (hri _).mono ?_
    rintro e w1 ⟨rfl, hb2⟩
    rw [HZ.out] at hb2
    go_wp2
    go_ret
    exact ⟨rfl, hb1.trans (hb2.mono (by omega))⟩
  | true =>
    obtain ⟨r0, r1, l0, l1, l2⟩ := rightT_iff.1 hr
    obtain ⟨r, rfl⟩ : ∃ r : Nat, run = r := ⟨run.toNat, by omega⟩
    have ham := fun x => amount_page level (by omega) (by omega) x
    have hha := fun x => has_page last r level.natAbs (by omega) (by omega) (by omega) x
    rw [hr] at hri
    obtain ⟨ev, hev⟩ : ∃ ev, eventAt last r level = ev := ⟨_, rfl⟩
    obtain ⟨y, hy⟩ : ∃ y, hasT last r level.natAbs = y := ⟨_, rfl⟩
    obtain ⟨sg, hsy⟩ : ∃ sg : ByteArray, (if level < 0 then ⟨#[49]⟩ else ⟨#[48]⟩) = sg := ⟨_, rfl⟩
    have hss : sg.size = 1 := by rw [← hsy]; split <;> rfl
    have hsg := fun x => sign_page level x
    rw [hsy] at hsg
    have hcase : (y.toList ≠ [] ∧ y.toList.isEmpty = false ∧ y.size ≤ 12 ∧ ev = y ++ sg) ∨ (y = ⟨#[]⟩ ∧ ev = ⟨#[48, 48, 48, 48, 48, 49, 49]⟩ ++ (if last then ⟨#[49]⟩ else ⟨#[48]⟩) ++ ⟨(rowOf r 6).toArray⟩ ++ ⟨(rowOf (level % 256).toNat 8).toArray⟩) := by
      cases hin : inT last r level.natAbs with
      | true =>
        have hy2 : rowT (plT last r level.natAbs) = y := by rw [← hy]; unfold hasT; rw [hin, if_pos rfl]
        have hcf := code_fits _ (Nat.lt_trans (plT_lt (by omega) hin) (show 102 < 103 by decide))
        have e : (rowT (plT last r level.natAbs)).data.toList.length = lenT (plT last r level.natAbs) := rowC_len _
        rw [hy2] at e
        have hnil : y.data.toList ≠ [] := by
          intro h
          rw [h, List.length_nil] at e
          have := hcf.1
          omega
        refine .inl ⟨by rw [Lib.toList_data]; exact hnil, by rw [Lib.toList_data]; simpa using hnil, ?_, ?_⟩
        · have : y.data.toList.length = y.size := rfl
          have := hcf.2.1
          omega
        · rw [← hev, event_table hr hin, hy2, hsy]
      | false => exact .inr ⟨by rw [← hy]; unfold hasT; rw [hin, if_neg (by decide)], by rw [← hev, event_escape hr hin]⟩
    have CASE := Lib.hid hcase
    rw [hev]
    rw [hy] at hha
    generalize level.natAbs = a at ham hha
    clear hr hh hz1 hcase hev hy hsy
    go_enter Tryd.func29, Tryd.ntmps29
    go_wp2_with fail
    refine (hri _).mono ?_
    rintro e w1 ⟨rfl, hb2⟩
    rw [HZ.out] at hb2
    have hb3 := hb1.trans (hb2.mono (by omega))
    obtain ⟨c0, c1, c2, _, _, _⟩ := ev_cells (HH.out _ hb2)
    have hz3 : w.heap.size + 1 ≤ w1.heap.size := by have := hb2.size; rw [HZ.out] at this; exact this
    go_wp2_with fail
    have q0 : w1.drew.cell? ⟨w.heap.size, 0, none⟩ = some (.bool last) := c0
    have q1 : w1.drew.cell? ⟨w.heap.size, 1, none⟩ = some (.int .i64 (r : Int)) := c1
    have q2 : w1.drew.cell? ⟨w.heap.size, 2, none⟩ = some (.int .i64 level) := c2
    clear c0 c1 c2
    go_cut [3] from 9 to 16 (fun v wx => v = .string y ∧ Below (w.heap.size + 1) (w.alloc (.cells #[.bool last, .int .i64 (r : Int), .int .i64 level] 50 (0, 0))) wx ∧ Below w.heap.size w wx)
    case first =>
      have ham2 : ∀ x, Calls Tryd.prog 40 #[.int .i64 level] x fun e w' => e = .returned (.int .i64 (a : Nat)) ∧ w' = x := fun x => (ham x).mono fun _ _ ⟨h1, h2⟩ => ⟨h1, h2.symm⟩
      have hb2d := hb2.drew
      have hb3d := hb3.drew
      have hz3d : w.heap.size + 1 ≤ w1.drew.heap.size := hz3
      go_still_tail 7, (by kernel_rfl)
      still_call (ham2 _)
      refine wpStill_nil ?_
      change wpList _ _ _ _ _ w1.drew
      generalize w1.drew = w4 at q0 q1 q2 hb2d hb3d hz3d ⊢
      go_wp2_with (go_at_call 39; refine (hha _).mono ?_; rintro e w2 ⟨rfl, hb4⟩)
      go_meet
      exact ⟨rfl, hb2d.trans (hb4.mono hz3d), hb3d.trans (hb4.mono (by omega))⟩
    case rest =>
      clear q0 q1 q2 hb2 hb3 hb1 ham hha hri hz3
      obtain ⟨rfl, hb5, hb6⟩ := hcut
      obtain ⟨c0, c1, c2, _, _, _⟩ := ev_cells (HH.out _ hb5)
      rcases CASE.out with ⟨e1, e2, e3, e4⟩ | ⟨e1, e4⟩
      · have F := Lib.hid e4
        clear CASE e4
        go_wp2_with fail
        refine (hsg _).mono ?_
        rintro e w3 ⟨rfl, rfl⟩
        go_wp2
        go_ret
        exact ⟨by rw [F.out]; rfl, hb6⟩
      · have F := Lib.hid e4
        subst e1
        have hrow := fun (v n : Int) h1 h2 h3 h4 x => row_page v n h1 h2 h3 h4 x
        clear CASE e4 hsg
        obtain ⟨x1, hx1⟩ : ∃ x1 : ByteArray, ⟨(rowOf r 6).toArray⟩ = x1 := ⟨_, rfl⟩
        obtain ⟨x2, hx2⟩ : ∃ x2 : ByteArray, ⟨(rowOf (level % 256).toNat 8).toArray⟩ = x2 := ⟨_, rfl⟩
        have s1 : x1.size = 6 := by rw [← hx1, size_mk, rowOf_length]
        have s2 : x2.size = 8 := by rw [← hx2, size_mk, rowOf_length]
        rw [hx1, hx2] at F
        have X1 := Lib.hid hx1
        have X2 := Lib.hid hx2
        clear hx1 hx2
        cases last
        all_goals
          by_cases hneg : level < 0
          · have t0 : decide (level < 0) = true := by simpa using hneg
            have G := Lib.hid (show (level % 256).toNat = (256 + level).toNat by omega)
            go_wp2_with fail
            refine (hrow (r : Int) 6 (by omega) (by omega) (by omega) (by omega) _).mono ?_
            rintro e w3 ⟨rfl, rfl⟩
            rw [Int.toNat_natCast, show (6 : Int).toNat = 6 from rfl, X1.out]
            go_wp2_with fail
            refine (hrow (256 + level) 8 (by omega) (by omega) (by omega) (by omega) _).mono ?_
            rintro e w3 ⟨rfl, rfl⟩
            rw [← G.out, show (8 : Int).toNat = 8 from rfl, X2.out]
            go_wp2
            go_ret
            exact ⟨by rw [F.out]; rfl, hb6⟩
          · have t0 : decide (level < 0) = false := by simpa using hneg
            have G := Lib.hid (show (level % 256).toNat = (level).toNat by omega)
            go_wp2_with fail
            refine (hrow (r : Int) 6 (by omega) (by omega) (by omega) (by omega) _).mono ?_
            rintro e w3 ⟨rfl, rfl⟩
            rw [Int.toNat_natCast, show (6 : Int).toNat = 6 from rfl, X1.out]
            go_wp2_with fail
            refine (hrow (level) 8 (by omega) (by omega) (by omega) (by omega) _).mono ?_
            rintro e w3 ⟨rfl, rfl⟩
            rw [← G.out, show (8 : Int).toNat = 8 from rfl, X2.out]
            go_wp2
            go_ret
            exact ⟨by rw [F.out]; rfl, hb6⟩
end Go.Proofs.YtologhgoojkpmaaDoor
