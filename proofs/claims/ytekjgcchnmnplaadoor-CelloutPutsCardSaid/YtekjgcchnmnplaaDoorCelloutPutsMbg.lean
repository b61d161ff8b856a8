/- Texts that CelloutPuts's proof stands on, part 33 of 37. No condition of its own. -/
import Derived.Test.YtekjgcchnmnplaaDoorCelloutPutsMp
import Derived.Test.YtekjgcchnmnplaaDoorCelloutPutsMt
import Derived.Test.YtekjgcchnmnplaaDoorCelloutPutsMz
import Derived.StillTailTactics
import Derived.Deep.CutRange
import Derived.Deep.DeepCutAuto
import Derived.Maps.AppendAt
import Derived.Laws.OwnMore
import Derived.RegionTactic
import Derived.Deep.RegionWith
namespace Go.Proofs.YtekjgcchnmnplaaDoor
open Go.RowKit Go.Lib
def hasT (last : Bool) (run amt : Nat) : ByteArray := if inT last run amt then rowT (plT last run amt) else ⟨#[]⟩
theorem rawL_len (l : List ByteArray) : (rawL l).length = l.length := List.length_map _
theorem placesT_len (last : Bool) (run : Nat) : (placesT last run).length = amtT last run := by unfold placesT; rw [List.length_map, List.length_range]
theorem rowsP_len (last : Bool) (run : Nat) : (rowsP last run).length = amtT last run := by unfold rowsP; rw [List.length_map, placesT_len]
theorem rawL_at {l : List ByteArray} {last : Bool} {run : Nat} (h : rawL l = rowsP last run) {i : Nat} (hi : i < amtT last run) : ∃ h2 : i < l.length, l[i] = rowT (baseT last + sumT last run + i) := by
 have hl : l.length = amtT last run := by rw [← rawL_len, h, rowsP_len]
 refine ⟨by omega, ba_eq.2 ?_⟩
 have h1 : (rawL l)[i]? = some l[i].data.toList := by unfold rawL; rw [List.getElem?_map, List.getElem?_eq_getElem (by omega)]; rfl
 rw [h] at h1
 unfold rowsP placesT at h1
 rw [List.getElem?_map, List.getElem?_map, List.getElem?_range hi] at h1
 simp only [Option.map_some, Option.some.injEq] at h1
 exact h1.symm
set_option maxRecDepth 100000 in
set_option maxHeartbeats 1000000 in
theorem has_page (last : Bool) (run amt : Nat) (hr : run < 64) (h1 : 1 ≤ amt) (h2 : amt ≤ 200) (w : World) : Calls Tryd.prog 66 #[.bool last, .int .i64 (run : Int), .int .i64 (amt : Int)] w fun e w' => e = .returned (.string (hasT last run amt)) ∧ Below w.heap.size w w' := by
 have hro := fun x => rows_page last run hr x
 by_cases h : amt ≤ amtT last run
 ·have F := Lib.hid (show hasT last run amt = rowT (plT last run amt) by unfold hasT; rw [if_pos (inT_iff.2 ⟨h1, h⟩)])
  rw [F.out]
  obtain ⟨i, rfl⟩ : ∃ i, amt = i + 1 := ⟨amt - 1, by omega⟩
  have hat := fun (l : List ByteArray) (hl : rawL l = rowsP last run) => rawL_at hl (i := i) (by omega)
  have hpl : plT last run (i + 1) = baseT last + sumT last run + i := by unfold plT; omega
  rw [hpl]
  generalize rowT (baseT last + sumT last run + i) = y at hat ⊢
  have AT := Lib.hid hat
  clear hat F hpl h
  go_enter Tryd.func66, Tryd.ntmps66
  go_wp2_with fail
  refine (hro _).mono ?_
  rintro e w1 ⟨l, q, cap, rfl, hl, hst, _, hb⟩
  obtain ⟨hil, hy⟩ := AT.out l hl
  obtain ⟨b, o, rfl, _, hc⟩ := hst.at (by omega)
  have c0 : w1.cell? ⟨b, o + i, none⟩ = some (.string y) := (hc i hil).trans (by rw [hy])
  have t0 : decide ((l.length : Int) < (i : Int) + 1) = false := by simp; omega
  obtain ⟨n, hn⟩ : ∃ n, l.length = n := ⟨_, rfl⟩
  rw [hn] at t0 hil ⊢
  clear hc hl hst hy hn
  go_wp2
  go_ret
  exact ⟨rfl, hb⟩
 ·have F := Lib.hid (show hasT last run amt = ⟨#[]⟩ by unfold hasT; rw [if_neg (by rw [inT_iff]; omega)])
  rw [F.out]
  have hln := fun (l : List ByteArray) (hl : rawL l = rowsP last run) => (show l.length < amt by rw [← rawL_len, hl, rowsP_len]; omega)
  clear F h
  go_enter Tryd.func66, Tryd.ntmps66
  go_wp2_with fail
  refine (hro _).mono ?_
  rintro e w1 ⟨l, q, cap, rfl, hl, hst, _, hb⟩
  have hlt := hln l hl
  have t0 : decide ((l.length : Int) < (amt : Int)) = true := by simp; omega
  generalize l.length = n at hlt t0 ⊢
  have t1 : decide (n < amt) = true := by simpa using hlt
  clear hl hst
  go_wp2
  go_ret
  exact ⟨rfl, hb⟩
theorem sign_page (n : Int) (w : World) : Calls Tryd.prog 68 #[.int .i64 n] w fun e w' => e = .returned (.string (if n < 0 then ⟨#[49]⟩ else ⟨#[48]⟩)) ∧ w = w' := by
 by_cases h : n < 0
 ·have t0 : decide (n < 0) = true := by simpa using h
  rw [if_pos h]
  go_enter Tryd.func68, Tryd.ntmps68
  go_wp2
  go_ret
  exact ⟨rfl, rfl⟩
 ·have t0 : decide (n < 0) = false := by simpa using h
  rw [if_neg h]
  go_enter Tryd.func68, Tryd.ntmps68
  go_wp2
  go_ret
  exact ⟨rfl, rfl⟩
theorem amount_pageE (n : Int) (h1 : -200 ≤ n) (h2 : n ≤ 200) (w : World) : Calls Tryd.prog 67 #[.int .i64 n] w fun e w' => e = .returned (.int .i64 (n.natAbs : Nat)) ∧ w = w' := by
 by_cases h : n < 0
 ·have t0 : decide (n < 0) = true := by simpa using h
  have F := Lib.hid (show ((n.natAbs : Nat) : Int) = -n by omega)
  rw [F.out]
  go_enter Tryd.func67, Tryd.ntmps67
  go_wp2
  go_ret
  exact ⟨ret_int (by rfl), rfl⟩
 ·have t0 : decide (n < 0) = false := by simpa using h
  have F := Lib.hid (show ((n.natAbs : Nat) : Int) = n by omega)
  rw [F.out]
  go_enter Tryd.func67, Tryd.ntmps67
  go_wp2
  go_ret
  exact ⟨rfl, rfl⟩
theorem rowOf_cat (c d n m : Nat) (hc : c < 2 ^ n) (hd : d < 2 ^ m) : rowOf c n ++ rowOf d m = rowOf (c * 2 ^ m + d) (n + m) := by
 have h := row_num (rowOf c n ++ rowOf d m) (by rw [isRow_append, rowOf_row, rowOf_row]; rfl)
 rw [List.length_append, rowOf_length, rowOf_length, num_append, rowOf_length, num_rowOf, num_rowOf, Nat.mod_eq_of_lt hc, Nat.mod_eq_of_lt hd] at h
 exact h.symm
theorem event_table {last : Bool} {run : Nat} {level : Int} (hr : rightT run level = true) (hin : inT last run level.natAbs = true) : eventAt last run level = rowT (plT last run level.natAbs) ++ (if level < 0 then ⟨#[49]⟩ else ⟨#[48]⟩) := by
 obtain ⟨r0, r1, _⟩ := rightT_iff.1 hr
 obtain ⟨b0, b1, b2, _⟩ := code_fits (plT last run level.natAbs) (Nat.lt_trans (plT_lt (by omega) hin) (by decide))
 unfold eventAt numT digT rowT
 rw [if_pos hr, Int.toNat_natCast, hin, if_pos rfl, if_pos rfl]
 by_cases h : level < 0
 ·rw [if_pos h, if_pos h, show (⟨#[49]⟩ : ByteArray) = ⟨(rowOf 1 1).toArray⟩ from rfl, bytes_append, rowOf_cat _ _ _ _ b2 (by decide), Nat.mul_comm]
 ·rw [if_neg h, if_neg h, show (⟨#[48]⟩ : ByteArray) = ⟨(rowOf 0 1).toArray⟩ from rfl, bytes_append, rowOf_cat _ _ _ _ b2 (by decide), Nat.mul_comm]
theorem event_escape {last : Bool} {run : Nat} {level : Int} (hr : rightT run level = true) (hin : inT last run level.natAbs = false) :
  eventAt last run level = ⟨#[48, 48, 48, 48, 48, 49, 49]⟩ ++ (if last then ⟨#[49]⟩ else ⟨#[48]⟩) ++ ⟨(rowOf run 6).toArray⟩ ++ ⟨(rowOf (level % 256).toNat 8).toArray⟩ := by
 obtain ⟨r0, r1, _⟩ := rightT_iff.1 hr
 have h6 : (6 + last.toNat) < 2 ^ 8 := by cases last <;> decide
 unfold eventAt numT digT
 rw [if_pos hr, Int.toNat_natCast, hin, if_neg (by decide), if_neg (by decide)]
 rw [show (⟨#[48, 48, 48, 48, 48, 49, 49]⟩ : ByteArray) ++ (if last then ⟨#[49]⟩ else ⟨#[48]⟩) = ⟨(rowOf (6 + last.toNat) 8).toArray⟩ by cases last <;> decide +kernel]
 rw [bytes_append (rowOf (6 + last.toNat) 8), rowOf_cat _ _ _ _ h6 (by omega), bytes_append, rowOf_cat _ _ _ _ (by cases last <;> simp <;> omega) (by omega)]
set_option maxRecDepth 100000 in
set_option maxHeartbeats 1000000 in
theorem errow_page (last : Bool) (run level : Int) (w : World) : Calls Tryd.prog 52 #[.agg #[.bool last, .int .i64 run, .int .i64 level]] w fun e w' => e = .returned (.string (eventAt last run level)) ∧ Below w.heap.size w w' := by
 have hri := fun x => right_pageE last run level x
 have hb1 : Below w.heap.size w (w.alloc (.cells #[.bool last, .int .i64 run, .int .i64 level] 85 (0, 0))) := (Below.refl _ w).alloc (Nat.le_refl _) _
 have hh : ∀ x, Below (w.heap.size + 1) (w.alloc (.cells #[.bool last, .int .i64 run, .int .i64 level] 85 (0, 0))) x → x.heap[w.heap.size]? = some (evObj last run level) := fun x hx => (hx.block w.heap.size (by omega)).trans (heap_alloc_new w _)
 have HH := Lib.hid hh
 have hz1 : (w.alloc (.cells #[.bool last, .int .i64 run, .int .i64 level] 85 (0, 0))).heap.size = w.heap.size + 1 := by simp
 have HZ := Lib.hid hz1
 cases hr : rightT run level with
 | false =>
  have F := Lib.hid (show eventAt last run level = ⟨#[]⟩ by unfold eventAt; rw [hr, if_neg (by decide)])
  rw [F.out]
  rw [hr] at hri
  clear hr hh hz1
  go_enter Tryd.func52, Tryd.ntmps52
  go_wp2_with fail
  refine (hri _).mono ?_
  rintro e w1 ⟨rfl, hb2⟩
  rw [HZ.out] at hb2
  go_wp2
  go_ret
  exact ⟨rfl, hb1.trans (hb2.mono (by omega))⟩
 | true =>
  obtain ⟨r0, r1, l0, l1, l2⟩ := rightT_iff.1 hr
  obtain ⟨r, rfl⟩ : ∃ r : Nat, run = r := ⟨run.toNat, by omega⟩
  have ham := fun x => amount_pageE level (by omega) (by omega) x
  have hha := fun x => has_page last r level.natAbs (by omega) (by omega) (by omega) x
  rw [hr] at hri
  obtain ⟨ev, hev⟩ : ∃ ev, eventAt last r level = ev := ⟨_, rfl⟩
  obtain ⟨y, hy⟩ : ∃ y, hasT last r level.natAbs = y := ⟨_, rfl⟩
  obtain ⟨sg, hsy⟩ : ∃ sg : ByteArray, (if level < 0 then ⟨#[49]⟩ else ⟨#[48]⟩) = sg := ⟨_, rfl⟩
  have hss : sg.size = 1 := by rw [← hsy]; split <;> rfl
  have hsg := fun x => sign_page level x
  rw [hsy] at hsg
  have hcase : (y.toList ≠ [] ∧ y.toList.isEmpty = false ∧ y.size ≤ 12 ∧ ev = y ++ sg) ∨ (y = ⟨#[]⟩ ∧ ev = ⟨#[48, 48, 48, 48, 48, 49, 49]⟩ ++ (if last then ⟨#[49]⟩ else ⟨#[48]⟩) ++ ⟨(rowOf r 6).toArray⟩ ++ ⟨(rowOf (level % 256).toNat 8).toArray⟩) := by
   cases hin : inT last r level.natAbs with
   | true =>
    have hy2 : rowT (plT last r level.natAbs) = y := by rw [← hy]; unfold hasT; rw [hin, if_pos rfl]
    have hcf := code_fits _ (Nat.lt_trans (plT_lt (by omega) hin) (show 102 < 103 by decide))
    have e : (rowT (plT last r level.natAbs)).data.toList.length = lenT (plT last r level.natAbs) := rowC_len _
    rw [hy2] at e
    have hnil : y.data.toList ≠ [] := by
     intro h
     rw [h, List.length_nil] at e
     have := hcf.1
     omega
    refine .inl ⟨by rw [Lib.toList_data]; exact hnil, by rw [Lib.toList_data]; simpa using hnil, ?_, ?_⟩
    ·have : y.data.toList.length = y.size := rfl
     have := hcf.2.1
     omega
    ·rw [← hev, event_table hr hin, hy2, hsy]
   | false => exact .inr ⟨by rw [← hy]; unfold hasT; rw [hin, if_neg (by decide)], by rw [← hev, event_escape hr hin]⟩
  have CASE := Lib.hid hcase
  rw [hev]
  rw [hy] at hha
  generalize level.natAbs = a at ham hha
  clear hr hh hz1 hcase hev hy hsy
  go_enter Tryd.func52, Tryd.ntmps52
  go_wp2_with fail
  refine (hri _).mono ?_
  rintro e w1 ⟨rfl, hb2⟩
  rw [HZ.out] at hb2
  have hb3 := hb1.trans (hb2.mono (by omega))
  obtain ⟨c0, c1, c2, _, _, _⟩ := ev_cells (HH.out _ hb2)
  have hz3 : w.heap.size + 1 ≤ w1.heap.size := by have := hb2.size; rw [HZ.out] at this; exact this
  go_wp2_with fail
  have q0 : w1.drew.cell? ⟨w.heap.size, 0, none⟩ = some (.bool last) := c0
  have q1 : w1.drew.cell? ⟨w.heap.size, 1, none⟩ = some (.int .i64 (r : Int)) := c1
  have q2 : w1.drew.cell? ⟨w.heap.size, 2, none⟩ = some (.int .i64 level) := c2
  clear c0 c1 c2
  go_cut [3] from 9 to 16 (fun v wx => v = .string y ∧ Below (w.heap.size + 1) (w.alloc (.cells #[.bool last, .int .i64 (r : Int), .int .i64 level] 85 (0, 0))) wx ∧ Below w.heap.size w wx)
  case first =>
   have ham2 : ∀ x, Calls Tryd.prog 67 #[.int .i64 level] x fun e w' => e = .returned (.int .i64 (a : Nat)) ∧ w' = x := fun x => (ham x).mono fun _ _ ⟨h1, h2⟩ => ⟨h1, h2.symm⟩
   have hb2d := hb2.drew
   have hb3d := hb3.drew
   have hz3d : w.heap.size + 1 ≤ w1.drew.heap.size := hz3
   go_still_tail 7, (by kernel_rfl)
   still_call (ham2 _)
   refine wpStill_nil ?_
   change wpList _ _ _ _ _ w1.drew
   generalize w1.drew = w4 at q0 q1 q2 hb2d hb3d hz3d ⊢
   go_wp2_with (go_at_call 66; refine (hha _).mono ?_; rintro e w2 ⟨rfl, hb4⟩)
   go_meet
   exact ⟨rfl, hb2d.trans (hb4.mono hz3d), hb3d.trans (hb4.mono (by omega))⟩
  case rest =>
   clear q0 q1 q2 hb2 hb3 hb1 ham hha hri hz3
   obtain ⟨rfl, hb5, hb6⟩ := hcut
   obtain ⟨c0, c1, c2, _, _, _⟩ := ev_cells (HH.out _ hb5)
   rcases CASE.out with ⟨e1, e2, e3, e4⟩ | ⟨e1, e4⟩
   ·have F := Lib.hid e4
    clear CASE e4
    go_wp2_with fail
    refine (hsg _).mono ?_
    rintro e w3 ⟨rfl, rfl⟩
    go_wp2
    go_ret
    exact ⟨by rw [F.out]; rfl, hb6⟩
   ·have F := Lib.hid e4
    subst e1
    have hrow := fun (v n : Int) h1 h2 h3 h4 x => row_page v n h1 h2 h3 h4 x
    clear CASE e4 hsg
    obtain ⟨x1, hx1⟩ : ∃ x1 : ByteArray, ⟨(rowOf r 6).toArray⟩ = x1 := ⟨_, rfl⟩
    obtain ⟨x2, hx2⟩ : ∃ x2 : ByteArray, ⟨(rowOf (level % 256).toNat 8).toArray⟩ = x2 := ⟨_, rfl⟩
    have s1 : x1.size = 6 := by rw [← hx1, size_mk, rowOf_length]
    have s2 : x2.size = 8 := by rw [← hx2, size_mk, rowOf_length]
    rw [hx1, hx2] at F
    have X1 := Lib.hid hx1
    have X2 := Lib.hid hx2
    clear hx1 hx2
    cases last
    all_goals
     by_cases hneg : level < 0
     ·have t0 : decide (level < 0) = true := by simpa using hneg
      have G := Lib.hid (show (level % 256).toNat = (256 + level).toNat by omega)
      go_wp2_with fail
      refine (hrow (r : Int) 6 (by omega) (by omega) (by omega) (by omega) _).mono ?_
      rintro e w3 ⟨rfl, rfl⟩
      rw [Int.toNat_natCast, show (6 : Int).toNat = 6 from rfl, X1.out]
      go_wp2_with fail
      refine (hrow (256 + level) 8 (by omega) (by omega) (by omega) (by omega) _).mono ?_
      rintro e w3 ⟨rfl, rfl⟩
      rw [← G.out, show (8 : Int).toNat = 8 from rfl, X2.out]
      go_wp2
      go_ret
      exact ⟨by rw [F.out]; rfl, hb6⟩
     ·have t0 : decide (level < 0) = false := by simpa using hneg
      have G := Lib.hid (show (level % 256).toNat = (level).toNat by omega)
      go_wp2_with fail
      refine (hrow (r : Int) 6 (by omega) (by omega) (by omega) (by omega) _).mono ?_
      rintro e w3 ⟨rfl, rfl⟩
      rw [Int.toNat_natCast, show (6 : Int).toNat = 6 from rfl, X1.out]
      go_wp2_with fail
      refine (hrow (level) 8 (by omega) (by omega) (by omega) (by omega) _).mono ?_
      rintro e w3 ⟨rfl, rfl⟩
      rw [← G.out, show (8 : Int).toNat = 8 from rfl, X2.out]
      go_wp2
      go_ret
      exact ⟨by rw [F.out]; rfl, hb6⟩
end Go.Proofs.YtekjgcchnmnplaaDoor

namespace Go.Proofs.YtekjgcchnmnplaaDoor
open Go.RowKit Go.Lib
def encE (p : Nat) : List Value := [.bool (evT p).1, .int .i64 ((evT p).2.1 : Int), .int .i64 ((evT p).2.2 : Int)]
def OwnsP (O : Nat) (P : List Nat) (u v : Value) (wr : World) : Prop :=
 wr.ownsRow O 9 1 u P.length (strCells (P.map rowT)) ∧ wr.ownsRow O 85 3 v P.length (P.flatMap encE)
theorem OwnsP.below {O : Nat} {P : List Nat} {u v : Value} {w x : World} (h : OwnsP O P u v w) (hb : Below w.heap.size w x) : OwnsP O P u v x :=
 ⟨h.1.kept (below_grownBy hb none) (Classical.em _), h.2.kept (below_grownBy hb none) (Classical.em _)⟩
end Go.Proofs.YtekjgcchnmnplaaDoor

namespace Go.Proofs.YtekjgcchnmnplaaDoor
open Go.RowKit Go.Lib
theorem bfrom_page (i : Bool) (w : World) : Calls Tryd.prog 36 #[.bool i] w fun e w' => e = .returned (.int .i64 (fromB i : Nat)) ∧ w = w' := by
 cases i
 all_goals
  go_enter Tryd.func36, Tryd.ntmps36
  go_wp2
  go_ret
  exact ⟨rfl, rfl⟩
set_option maxRecDepth 100000 in
set_option maxHeartbeats 1000000 in
theorem bmay_page (i : Bool) (d : Int) (p : Option Addr) (l : List Ev) (c : Nat) (w : World) (hp : EvsIn w p l) (hln : l.length ≤ 140737488355328) :
  Calls Tryd.prog 18 #[.bool i, .int .i64 d, .slice p l.length c] w fun e w' => e = .returned (.bool (mayB i d l)) ∧ Below w.heap.size w w' := by
 obtain ⟨B, hB⟩ : ∃ B, w.heap.size = B := ⟨_, rfl⟩
 have hfr := fun x => bfrom_page i x
 have hlv := levels_page p l c ((fromB i : Nat) : Int) w hp hln
 unfold LvGives at hlv
 have hor : ((lvG l ((fromB i : Nat) : Int)).2 = 0 ∧ badV (fromB i) l l.length = false) ∨ ((lvG l ((fromB i : Nat) : Int)).2 = 7 ∧ badV (fromB i) l l.length = true) := by
  cases hb : badV (fromB i) l l.length with
  | false => exact .inl ⟨lvG_ok hb, rfl⟩
  | true => exact .inr ⟨lvG_bad hb, rfl⟩
 have hmay : mayB i d l = (dcOk i d && !badV (fromB i) l l.length) := rfl
 rw [hmay]
 have HONE := arrA_one (lvG l ((fromB i : Nat) : Int)).1
 have HSZ : (Tryd.prog.info? 65).map (·.size) = some (arrA (lvG l ((fromB i : Nat) : Int)).1).size := arr_sized _
 obtain ⟨Y, hY⟩ : ∃ Y, arrA (fun _ => 0) = Y := ⟨_, rfl⟩
 have hzv : ∀ w, (zeroValue 65).run Tryd.prog w = .ok (.agg Y) w := by rw [← hY]; exact arr_zero
 have hYZ : Y.size = (arrA (lvG l ((fromB i : Nat) : Int)).1).size := by rw [← hY, arrA_size, arrA_size]
 generalize arrA (lvG l ((fromB i : Nat) : Int)).1 = Z at hlv HONE HSZ hYZ
 generalize (lvG l ((fromB i : Nat) : Int)).2 = f at hlv hor
 generalize badV (fromB i) l l.length = bv at hor ⊢
 generalize ((fromB i : Nat) : Int) = fr at hfr hlv
 have HB := Lib.hid hB
 generalize l.length = n at hlv ⊢
 obtain ⟨M, hM⟩ : ∃ M, (dcOk i d && !bv) = M := ⟨_, rfl⟩
 rw [hM]
 clear hp hY hB hln hmay
 go_enter Tryd.func18, Tryd.ntmps18
 go_wp2_with fail
 refine (hfr _).mono ?_
 rintro e w2 ⟨rfl, rfl⟩
 go_wp2_with fail
 refine hlv.mono ?_
 rintro e w2 ⟨rfl, hb2⟩
 rw [HB.out] at hb2
 have hz3 : B ≤ w2.heap.size := by rw [← HB.out]; exact (show Below w.heap.size w w2 by rw [HB.out]; exact hb2).size
 obtain ⟨X, hX⟩ : ∃ X, w2.heap.size = X := ⟨_, rfl⟩
 have hh4 := heap_alloc_new w2 (.cells Y 65 (0, 0))
 have hb4 := hb2.alloc hz3 (.cells Y 65 (0, 0))
 have hsz4 : (w2.alloc (.cells Y 65 (0, 0))).heap.size = X + 1 := by simp; omega
 rw [hX] at hh4
 generalize hw4 : w2.alloc (.cells Y 65 (0, 0)) = w4 at hh4 hb4 hsz4
 have HW4 := Lib.hid hw4
 have HX := Lib.hid hX
 have HXB := Lib.hid (show B ≤ X by omega)
 clear hw4 hX hb2 hz3 hlv hfr
 have FIN := Lib.hid (fun (r : Bool) (x : World) (hx : Below B w x) (h : M = r) => (⟨by rw [h], by rw [HB.out]; exact hx⟩ : Ending.returned (.bool r) = .returned (.bool M) ∧ Below w.heap.size w x))
 rcases hor with ⟨rfl, rfl⟩ | ⟨rfl, rfl⟩
 ·cases i with
  | false =>
   obtain ⟨b0, h0⟩ : ∃ b0, (d == 0) = b0 := ⟨_, rfl⟩
   have R := Lib.hid (show M = b0 by rw [← hM, dcOk_false, h0]; simp)
   clear hM
   cases b0
   all_goals
    go_wp2_with (rw [HW4.out, HX.out]; with_reducible refine wp_store_arr rfl 65 _ _ rfl X Z Y rfl rfl 65 hh4 HSZ hYZ HONE ?_; intro w5 hh5 hg5; clear hzv)
    have hb6 := hb4.grown hg5 (by have := HXB.out; omega) (fun k hk => by injection hk with hk; have := HXB.out; omega)
    go_ret
    exact FIN.out _ _ hb6 R.out
  | true =>
   obtain ⟨b0, h0⟩ : ∃ b0, decide (1 ≤ d) = b0 := ⟨_, rfl⟩
   obtain ⟨b1, h1⟩ : ∃ b1, decide (d ≤ 254) = b1 := ⟨_, rfl⟩
   have R := Lib.hid (show M = (b0 && b1) by rw [← hM, dcOk_true, h0, h1]; simp)
   clear hM
   cases b0 <;> cases b1
   all_goals
    go_wp2_with (rw [HW4.out, HX.out]; with_reducible refine wp_store_arr rfl 65 _ _ rfl X Z Y rfl rfl 65 hh4 HSZ hYZ HONE ?_; intro w5 hh5 hg5; clear hzv)
    have hb6 := hb4.grown hg5 (by have := HXB.out; omega) (fun k hk => by injection hk with hk; have := HXB.out; omega)
    go_ret
    exact FIN.out _ _ hb6 R.out
 ·have R := Lib.hid (show M = false by rw [← hM]; simp)
  clear hM
  cases i
  all_goals
   go_wp2_with (rw [HW4.out, HX.out]; with_reducible refine wp_store_arr rfl 65 _ _ rfl X Z Y rfl rfl 65 hh4 HSZ hYZ HONE ?_; intro w5 hh5 hg5; clear hzv)
   have hb6 := hb4.grown hg5 (by have := HXB.out; omega) (fun k hk => by injection hk with hk; have := HXB.out; omega)
   go_ret
   exact FIN.out _ _ hb6 R.out
def rowO (i : Bool) (d : Int) (l : List Ev) : ByteArray := ⟨(rowB i d l).toArray⟩
theorem rowO_size (i : Bool) (d : Int) (l : List Ev) : (rowO i d l).size ≤ 8 + 22 * l.length := by
 have := rowB_len i d l
 show (rowB i d l).toArray.size ≤ _
 simpa using this
theorem rowO_next (i : Bool) (d : Int) (l : List Ev) (x : Ev) : rowO i d l ++ rowE x = rowO i d (l ++ [x]) := by
 unfold rowO
 rw [show rowE x = ⟨(rowE x).data.toList.toArray⟩ by simp, bytes_append]
 unfold rowB
 rw [rowsB_snoc, List.append_assoc]
theorem rowE_size (x : Ev) : (rowE x).size ≤ 22 := rowE_len x
set_option maxRecDepth 100000 in
set_option maxHeartbeats 1000000 in
theorem brow_page (i : Bool) (d : Int) (p : Option Addr) (l : List Ev) (c : Nat) (w : World) (hp : EvsIn w p l) (hm : mayB i d l = true) :
  Calls Tryd.prog 33 #[.bool i, .int .i64 d, .slice p l.length c] w fun e w' => e = .returned (.string ⟨(rowB i d l).toArray⟩) ∧ Below w.heap.size w w' := by
 obtain ⟨hd, hbv⟩ := mayB_parts hm
 have hl64 := badV_len hbv
 have HP := Lib.hid (fun (x : World) (hx : Below w.heap.size w x) => (hp.below hx : EvsIn x p l))
 obtain ⟨n, hn⟩ : ∃ n, l.length = n := ⟨_, rfl⟩
 have HN := Lib.hid hn
 rw [hn] at hl64 ⊢
 have NXT := Lib.hid (fun (j : Nat) (h : j < l.length) => (by rw [List.take_succ_eq_append_getElem h, rowO_next] : rowO i d (l.take j) ++ rowE l[j] = rowO i d (l.take (j + 1))))
 have SZ := Lib.hid (fun (j : Nat) (h : j ≤ n) => (by have := rowO_size i d (l.take j); rw [List.length_take] at this; omega : (rowO i d (l.take j)).size ≤ 8 + 22 * j))
 have FIN := Lib.hid (show rowO i d (l.take n) = ⟨(rowB i d l).toArray⟩ by rw [← hn, List.take_length]; rfl)
 generalize (⟨(rowB i d l).toArray⟩ : ByteArray) = RB at FIN ⊢
 clear hbv hm hn hp
 have START : (i = false ∧ rowO i d (l.take 0) = ⟨#[]⟩) ∨ (i = true ∧ (d == 128) = true ∧ rowO i d (l.take 0) = ⟨(rowOf (255 : Int).toNat (8 : Int).toNat).toArray⟩) ∨ (i = true ∧ (d == 128) = false ∧ 1 ≤ d ∧ d ≤ 254 ∧ rowO i d (l.take 0) = ⟨(rowOf d.toNat (8 : Int).toNat).toArray⟩) := by
  cases i with
  | false => exact .inl ⟨rfl, rfl⟩
  | true =>
   have h0 : 1 ≤ d ∧ d ≤ 254 := by simpa [dcOk] using hd
   by_cases h128 : d = 128
   ·subst h128
    exact .inr (.inl ⟨rfl, rfl, rfl⟩)
   ·refine .inr (.inr ⟨rfl, by rw [beq_eq_false_iff_ne]; exact h128, h0.1, h0.2, ?_⟩)
    unfold rowO rowB dcB
    rw [if_pos rfl, if_neg h128, List.take_zero]
    simp [rowsB]
 clear hd
 obtain ⟨y0, hy0⟩ : ∃ y0, rowO i d (l.take 0) = y0 := ⟨_, rfl⟩
 have R0 := Lib.hid hy0
 rw [hy0] at START
 obtain ⟨R, hR⟩ : ∃ R : Nat → ByteArray, (fun j => rowO i d (l.take j)) = R := ⟨_, rfl⟩
 have eR : ∀ j, rowO i d (l.take j) = R j := fun j => by rw [← hR]
 have RZ : Hid (R 0 = y0) := Lib.hid (by rw [← eR]; exact R0.out)
 have NX := Lib.hid (fun (j : Nat) (h : j < l.length) => (by rw [← eR, ← eR]; exact NXT.out j h : R j ++ rowE l[j] = R (j + 1)))
 have SS := Lib.hid (fun (j : Nat) (h : j ≤ n) => (by rw [← eR]; exact SZ.out j h : (R j).size ≤ 8 + 22 * j))
 have FN := Lib.hid (show R n = RB by rw [← eR]; exact FIN.out)
 clear hy0 hR eR R0 NXT SZ FIN
 rcases START with ⟨rfl, rfl⟩ | ⟨rfl, h128, hrw⟩ | ⟨rfl, h128, h1, h2, hrw⟩
 case' inl =>
  go_enter Tryd.func33, Tryd.ntmps33
  go_wp2
 case' inr.inl =>
  have hrow := fun x => row_page 255 8 (by decide) (by decide) (by decide) (by decide) x
  rw [← hrw] at hrow
  clear hrw
  go_enter Tryd.func33, Tryd.ntmps33
  go_wp2_with fail
  refine (hrow _).mono ?_
  rintro e w1 ⟨rfl, rfl⟩
  go_wp2
 case' inr.inr =>
  have hrow := fun x => row_page d 8 (by omega) (by omega) (by decide) (by decide) x
  rw [← hrw] at hrow
  clear hrw
  go_enter Tryd.func33, Tryd.ntmps33
  go_wp2_with fail
  refine (hrow _).mono ?_
  rintro e w1 ⟨rfl, rfl⟩
  go_wp2
 all_goals
  go_loopw [7, 8] (fun v z wr => ∃ j : Nat, j ≤ n ∧ z = .int .i64 j ∧ v = .string (R j) ∧ Below w.heap.size w wr) (fun _ z _ => n - (RowKit.intOf z).toNat)
  case atStart => exact ⟨0, Nat.zero_le _, rfl, by rw [RZ.out], Below.refl _ _⟩
  case round =>
   obtain ⟨j, hj, rfl, rfl, hb⟩ := hrel
   by_cases hlt : j < n
   ·have t0 : decide ((j : Int) < (n : Int)) = true := by simp; omega
    have t1 : decide (j < n) = true := by simpa using hlt
    have hjl : j < l.length := by rw [HN.out]; exact hlt
    obtain ⟨b, o, rfl, hbb, hc⟩ := (HP.out _ hb).at (by omega)
    obtain ⟨c0, c1, c2⟩ := hc j hjl
    have hnx := NX.out j hjl
    have hsz := SS.out j hj
    obtain ⟨⟨x0, x1, x2⟩, hxe⟩ : ∃ x, l[j] = x := ⟨_, rfl⟩
    rw [hxe] at c0 c1 c2 hnx
    simp only at c0 c1 c2
    have hsy := rowE_size (x0, x1, x2)
    rw [show rowE (x0, x1, x2) = eventAt x0 x1 x2 from rfl] at hnx hsy
    have hrow := fun x => errow_page x0 x1 x2 x
    generalize eventAt x0 x1 x2 = y at hrow hnx hsy
    obtain ⟨Y, hY⟩ : ∃ Y, R j = Y := ⟨_, rfl⟩
    rw [hY] at hnx hsz ⊢
    have N := Lib.hid hnx
    clear hc hbb hxe hnx hjl hY
    go_wp2_with fail
    refine (hrow _).mono ?_
    rintro e w2 ⟨rfl, hb2⟩
    have hb3 := hb.trans (hb2.mono hb.size)
    clear hrow c0 c1 c2 hb2
    go_wp2
    go_roundw
    case rel => exact ⟨j + 1, by omega, by go_num, by rw [N.out], hb3⟩
    case measure => simp [RowKit.intOf]; omega
   ·obtain rfl : j = n := by omega
    have t0 : decide ((j : Int) < (j : Int)) = false := by simp
    have t1 : decide (j < j) = false := by simp
    rw [FN.out]
    go_wp2
    go_ret
    exact ⟨rfl, hb⟩
end Go.Proofs.YtekjgcchnmnplaaDoor
