/- Texts that SoundSame's proof stands on, part 31 of 48. No condition of its own. -/
import Derived.Test.YthmmpjecmapajaaDoorSoundSameMa
import Derived.Test.YthmmpjecmapajaaDoorSoundSameMe
import Derived.Test.YthmmpjecmapajaaDoorSoundSameMg
import Derived.Test.YthmmpjecmapajaaDoorSoundSameMi
import Derived.Test.YthmmpjecmapajaaDoorSoundSameMj
import Derived.Test.YthmmpjecmapajaaDoorSoundSameMu
import Derived.Test.YthmmpjecmapajaaDoorSoundSameMy
import Derived.Test.YthmmpjecmapajaaDoorSoundSameMbb
import Derived.Test.YthmmpjecmapajaaDoorSoundSameMbc
import Derived.Test.YthmmpjecmapajaaDoorSoundSameMbd
import Derived.RegionTactic
import Derived.Deep.RegionWith
import Derived.WalkKit
import Derived.StillTailTactics
import Derived.Test.YthmmpjecmapajaaDoorRows
namespace Go.Proofs.YthmmpjecmapajaaDoor
open Go.RowKit Go.Lib
theorem len_two : ∀ i, i < 103 → 2 ≤ lenT i := by decide +kernel
theorem or_add (y m r k : Nat) (hm : m = 2 ^ k) (h : r < m) (hy : m * y + r < 4294967296) : bits .or .i64 ((y : Int) * (m : Int)) (r : Int) = ((m * y + r : Nat) : Int) := by
 have hor := Nat.two_pow_add_eq_or_of_lt (i := k) (b := r) (by rw [← hm]; exact h) y
 rw [show (y : Int) * (m : Int) = ((m * y : Nat) : Int) by rw [Int.mul_comm]; simp]
 show IntKind.i64.wrap ((BitVec.ofInt 64 ((m * y : Nat) : Int) ||| BitVec.ofInt 64 ((r : Nat) : Int)).toNat : Int) = _
 rw [BitVec.ofInt_natCast, BitVec.ofInt_natCast, BitVec.toNat_or, BitVec.toNat_ofNat, BitVec.toNat_ofNat, Nat.mod_eq_of_lt (by omega), Nat.mod_eq_of_lt (by omega)]
 rw [← hm] at hor
 rw [← hor, IntKind.wrap_i64]
 omega
set_option maxHeartbeats 1000000 in
theorem told_codeE (last : Bool) (r : Nat) (level : Int) (hr : r < 64) (hl : -128 ≤ level ∧ level ≤ 127) (w : World) (hp : HasT w) : Calls Tryd.prog 88 #[.agg #[.bool last, .int .i64 (r : Int), .int .i64 level]] w fun e w' =>
  e = .returned (.tuple #[.int .i64 (numT last r level : Nat), .int .i64 (digT last r level : Nat)]) ∧ Below w.heap.size w w' := by
 have hpl := fun x hx => placed_code last r level hr hl x hx
 have HP := Lib.hid (fun (x : World) (hx : Below w.heap.size w x) => (hp.below hx : HasT x))
 obtain ⟨a, ha⟩ : ∃ a : Nat, level.natAbs = a := ⟨_, rfl⟩
 rw [ha] at hpl
 cases hin : inT last r a with
 | true =>
  obtain ⟨p, hpp⟩ : ∃ p, plT last r a = p := ⟨_, rfl⟩
  have hp102 : p < 102 := by rw [← hpp]; exact plT_lt hr hin
  have F1 := Lib.hid (show numT last r level = 2 * codeT p + (if level < 0 then 1 else 0) by unfold numT; rw [ha, hin, if_pos rfl, hpp])
  have F2 := Lib.hid (show digT last r level = lenT p + 1 by unfold digT; rw [ha, hin, if_pos rfl, hpp])
  rw [hin, if_pos rfl, hpp] at hpl
  have hco := fun x hx => coded_codeE p (by omega) x hx
  have hdi := fun x hx => digits_place p (by omega) x hx
  rw [if_neg (by omega)] at hdi
  rw [F1.out, F2.out]
  obtain ⟨b0, b1, b2, b3⟩ := code_fits p (by omega)
  have hdig := fun (b : Bool) x => digit_one b x
  obtain ⟨s, hs⟩ : ∃ s : Bool, decide (level < 0) = s := ⟨_, rfl⟩
  have ho := or_add (codeT p) 2 s.toNat 1 rfl (by cases s <;> decide) (by cases s <;> simp <;> omega)
  have hsn : (if level < 0 then 1 else 0 : Nat) = s.toNat := by rw [← hs]; by_cases h : level < 0 <;> simp [h]
  rw [hsn]
  generalize codeT p = x at hco b3 ho ⊢
  generalize lenT p = y at hco hdi b0 b1 ⊢
  have O := Lib.hid (show bits .or .i64 ((x : Int) * 2) (s.toNat : Int) = _ from ho)
  have SN := Lib.hid hsn
  have hb1 : Below w.heap.size w (w.alloc (.cells #[.bool last, .int .i64 (r : Int), .int .i64 level] 55 (0, 0))) := (Below.refl _ w).alloc (Nat.le_refl _) _
  have hp1 := HP.out _ hb1
  have hh : ∀ x, Below (w.heap.size + 1) (w.alloc (.cells #[.bool last, .int .i64 (r : Int), .int .i64 level] 55 (0, 0))) x → x.heap[w.heap.size]? = some (evObj last r level) := fun x hx => (hx.block w.heap.size (by omega)).trans (heap_alloc_new w _)
  have HH := Lib.hid hh
  have hz1 : (w.alloc (.cells #[.bool last, .int .i64 (r : Int), .int .i64 level] 55 (0, 0))).heap.size = w.heap.size + 1 := by simp
  have HZ := Lib.hid hz1
  clear F1 F2 hin ha hpp hp ho b2 hsn hh hz1
  go_enter Tryd.func88, Tryd.ntmps88
  go_wp2_with fail
  refine (hpl _ hp1).mono ?_
  rintro e w1 ⟨rfl, hb2⟩
  rw [HZ.out] at hb2
  have hb3 := hb1.trans (hb2.mono (by omega))
  go_wp2_with fail
  refine (hco _ (HP.out _ hb3)).mono ?_
  rintro e w2 ⟨rfl, hb4⟩
  have hz4 := hb3.size
  have hb5 := hb2.trans (hb4.mono (by have := hb2.size; rw [HZ.out] at this; exact this))
  have hb6 := hb3.trans (hb4.mono hz4)
  obtain ⟨c0, c1, c2, _, _, _⟩ := ev_cells (HH.out _ hb5)
  have hp6 := HP.out _ hb6
  clear hb2 hb3 hb4 hb5 hpl hco hp1 hb1
  go_wp2_with fail
  refine (hdig _ _).mono ?_
  rintro e w3 ⟨rfl, rfl⟩
  go_wp2_with fail
  refine (hdi _ hp6).mono ?_
  rintro e w4 ⟨rfl, hb7⟩
  go_wp2
  go_ret2
  exact ⟨ret_twoE O.out rfl, hb6.trans (hb7.mono hb6.size)⟩
 | false =>
  have F1 := Lib.hid (show numT last r level = ((6 + last.toNat) * 64 + r) * 256 + (level % 256).toNat by unfold numT; rw [ha, hin, if_neg (by decide)])
  have F2 := Lib.hid (show digT last r level = 22 by unfold digT; rw [ha, hin, if_neg (by decide)])
  rw [hin, if_neg (by decide)] at hpl
  have hco := fun x hx => coded_codeE 102 (by omega) x hx
  have hdi := fun x hx => digits_place 102 (by omega) x hx
  rw [if_pos rfl] at hdi
  rw [show codeT 102 = 3 by decide +kernel] at hco
  rw [F1.out, F2.out]
  have hdig := fun x => digit_one last x
  obtain ⟨s, hs⟩ : ∃ s, (level % 256).toNat = s := ⟨_, rfl⟩
  have hs256 : s < 256 := by omega
  have hand : bits .and .i64 level 255 = (s : Int) := by rw [show (255 : Int) = 2 ^ 8 - 1 by decide, and_low _ 8 (by omega)]; omega
  have o1 := or_add 3 2 last.toNat 1 rfl (by cases last <;> decide) (by cases last <;> simp)
  obtain ⟨y, hy⟩ : ∃ y, 6 + last.toNat = y := ⟨_, rfl⟩
  rw [show 2 * 3 + last.toNat = y by omega] at o1
  have hy7 : y ≤ 7 := by rw [← hy]; cases last <;> decide
  have o2 := or_add y 64 r 6 rfl hr (by omega)
  have o3 := or_add (64 * y + r) 256 s 8 rfl hs256 (by omega)
  rw [hs, hy, show (y * 64 + r) * 256 + s = 256 * (64 * y + r) + s by omega]
  obtain ⟨z, hz⟩ : ∃ z, 64 * y + r = z := ⟨_, rfl⟩
  rw [hz] at o2 o3 ⊢
  have hz512 : z < 512 := by omega
  have O1 := Lib.hid (show bits .or .i64 6 (last.toNat : Int) = (y : Int) from o1)
  have O2 := Lib.hid (show bits .or .i64 ((y : Int) * 64) (r : Int) = (z : Int) from o2)
  have O3 := Lib.hid (show bits .or .i64 ((z : Int) * 256) (s : Int) = _ from o3)
  have AND := Lib.hid hand
  have hb1 : Below w.heap.size w (w.alloc (.cells #[.bool last, .int .i64 (r : Int), .int .i64 level] 55 (0, 0))) := (Below.refl _ w).alloc (Nat.le_refl _) _
  have hp1 := HP.out _ hb1
  have hh : ∀ x, Below (w.heap.size + 1) (w.alloc (.cells #[.bool last, .int .i64 (r : Int), .int .i64 level] 55 (0, 0))) x → x.heap[w.heap.size]? = some (evObj last r level) := fun x hx => (hx.block w.heap.size (by omega)).trans (heap_alloc_new w _)
  have HH := Lib.hid hh
  have hz1 : (w.alloc (.cells #[.bool last, .int .i64 (r : Int), .int .i64 level] 55 (0, 0))).heap.size = w.heap.size + 1 := by simp
  have HZ := Lib.hid hz1
  clear F1 F2 hin ha hp hh hz1 hs hand o1 o2 o3 hy hz
  go_enter Tryd.func88, Tryd.ntmps88
  go_wp2_with fail
  refine (hpl _ hp1).mono ?_
  rintro e w1 ⟨rfl, hb2⟩
  rw [HZ.out] at hb2
  have hb3 := hb1.trans (hb2.mono (by omega))
  go_wp2_with fail
  refine (hco _ (HP.out _ hb3)).mono ?_
  rintro e w2 ⟨rfl, hb4⟩
  have hz4 := hb3.size
  have hb5 := hb2.trans (hb4.mono (by have := hb2.size; rw [HZ.out] at this; exact this))
  have hb6 := hb3.trans (hb4.mono hz4)
  obtain ⟨c0, c1, c2, _, _, _⟩ := ev_cells (HH.out _ hb5)
  have hp6 := HP.out _ hb6
  clear hb2 hb3 hb4 hb5 hpl hco hp1 hb1
  go_wp2_with fail
  refine (hdig _).mono ?_
  rintro e w3 ⟨rfl, rfl⟩
  have p1 := O1.out
  have p2 := O2.out
  have p3 := AND.out
  go_wp2_with fail
  have hp6d : HasT w2.drew := hp6
  have hb6d : Below w.heap.size w w2.drew := hb6.drew
  have c2d : w2.drew.cell? ⟨w.heap.size, 2, none⟩ = some (.int .i64 level) := c2
  have hlt : w.heap.size < w2.drew.heap.size := World.block_lt_of_cell? _ ⟨w.heap.size, 2, none⟩ c2d
  have CELL := Lib.hid (fun (x : World) (hx : Below w2.drew.heap.size w2.drew x) => ((hx.cell (p := ⟨w.heap.size, 2, none⟩) hlt).trans c2d : x.cell? ⟨w.heap.size, 2, none⟩ = some (.int .i64 level)))
  have sw : IntKind.i64.wrap ((z : Int) * 256) = (z : Int) * 256 := IntWalk.i64_in _ (by omega)
  go_region_with (go_at_call 95; refine (hdi _ (by assumption)).mono ?_; rintro e w4 ⟨rfl, hb7⟩; have c4 := CELL.out _ hb7)
  all_goals
   go_wp2
   go_ret2
   exact ⟨ret_twoE O3.out rfl, hb6d.trans (hb7.mono hb6d.size)⟩
theorem num_fits (last : Bool) (r : Nat) (level : Int) (hr : r < 64) : 3 ≤ digT last r level ∧ digT last r level ≤ 22 ∧ numT last r level < 2 ^ digT last r level := by
 unfold digT numT
 cases hin : inT last r level.natAbs with
 | true =>
  simp only [if_true]
  obtain ⟨b0, b1, b2, _⟩ := code_fits (plT last r level.natAbs) (Nat.lt_trans (plT_lt hr hin) (by decide))
  have b4 := len_two _ (Nat.lt_trans (plT_lt hr hin) (show 102 < 103 by decide))
  refine ⟨by omega, by omega, ?_⟩
  rw [Nat.pow_succ]
  split <;> omega
 | false =>
  simp only [Bool.false_eq_true, if_false]
  refine ⟨by decide, by decide, ?_⟩
  have h1 : last.toNat ≤ 1 := by cases last <;> decide
  have h2 : (level % 256).toNat < 256 := by omega
  omega
set_option maxHeartbeats 1000000 in
theorem erow_code (last : Bool) (run level : Int) (w : World) (hp : HasT w) : Calls Tryd.prog 84 #[.agg #[.bool last, .int .i64 run, .int .i64 level]] w fun e w' =>
  e = .returned (.tuple #[.string (eventAt last run level), .bool (!(eventAt last run level).data.toList.isEmpty)]) ∧ Below w.heap.size w w' := by
 have hri := fun x => right_code last run level x
 have HP := Lib.hid (fun (x : World) (hx : Below w.heap.size w x) => (hp.below hx : HasT x))
 have hb1 : Below w.heap.size w (w.alloc (.cells #[.bool last, .int .i64 run, .int .i64 level] 55 (0, 0))) := (Below.refl _ w).alloc (Nat.le_refl _) _
 have hh : ∀ x, Below (w.heap.size + 1) (w.alloc (.cells #[.bool last, .int .i64 run, .int .i64 level] 55 (0, 0))) x → x.heap[w.heap.size]? = some (evObj last run level) := fun x hx => (hx.block w.heap.size (by omega)).trans (heap_alloc_new w _)
 have HH := Lib.hid hh
 have hz1 : (w.alloc (.cells #[.bool last, .int .i64 run, .int .i64 level] 55 (0, 0))).heap.size = w.heap.size + 1 := by simp
 have HZ := Lib.hid hz1
 cases hr : rightT run level with
 | false =>
  have F := Lib.hid (show eventAt last run level = ⟨#[]⟩ by unfold eventAt; rw [hr, if_neg (by decide)])
  rw [F.out]
  rw [hr] at hri
  clear hr hp hh hz1
  go_enter Tryd.func84, Tryd.ntmps84
  go_wp2_with fail
  refine (hri _).mono ?_
  rintro e w1 ⟨rfl, hb2⟩
  rw [HZ.out] at hb2
  go_wp2
  go_ret2
  exact ⟨rfl, hb1.trans (hb2.mono (by omega))⟩
 | true =>
  obtain ⟨r0, r1, l0, l1, l2⟩ := rightT_iff.1 hr
  obtain ⟨r, rfl⟩ : ∃ r : Nat, run = r := ⟨run.toNat, by omega⟩
  have F := Lib.hid (show eventAt last r level = ⟨(rowOf (numT last r level) (digT last r level)).toArray⟩ by unfold eventAt; rw [hr, if_pos rfl]; rfl)
  have hto := fun x hx => told_codeE last r level (by omega) ⟨by omega, l1⟩ x hx
  obtain ⟨f1, f2, f3⟩ := num_fits last r level (by omega)
  have G := Lib.hid (show (!(eventAt last r level).data.toList.isEmpty) = true by
   rw [F.out]
   show (!(rowOf (numT last r level) (digT last r level)).isEmpty) = true
   cases hl : rowOf (numT last r level) (digT last r level) with
   | nil =>
    have e := rowOf_length (numT last r level) (digT last r level)
    rw [hl] at e
    simp at e
    omega
   | cons a l => rfl)
  rw [G.out, F.out]
  rw [hr] at hri
  generalize numT last r level = x at hto f3 ⊢
  generalize digT last r level = y at hto f1 f2 f3 ⊢
  have hx22 : x < 4194304 := Nat.lt_of_lt_of_le f3 (Nat.pow_le_pow_right (by decide) f2)
  have hrow := fun w => row_code (x : Int) (y : Int) w (by omega) (by
   unfold fitsIn
   rw [decide_eq_true_iff]
   refine ⟨by omega, by omega, by omega, ?_⟩
   rw [Int.toNat_natCast]
   exact_mod_cast f3)
  simp only [Int.toNat_natCast] at hrow
  clear hr hp hh hz1 F G f3
  go_enter Tryd.func84, Tryd.ntmps84
  go_wp2_with fail
  refine (hri _).mono ?_
  rintro e w1 ⟨rfl, hb2⟩
  rw [HZ.out] at hb2
  have hb3 := hb1.trans (hb2.mono (by omega))
  obtain ⟨c0, c1, c2, _, _, _⟩ := ev_cells (HH.out _ hb2)
  go_wp2_with fail
  refine (hto _ (HP.out _ hb3)).mono ?_
  rintro e w2 ⟨rfl, hb4⟩
  have hb5 := hb3.trans (hb4.mono hb3.size)
  clear c0 c1 c2 hb2 hb1
  go_wp2_with fail
  refine (hrow _).mono ?_
  rintro e w3 ⟨rfl, hb6⟩
  go_wp2
  go_ret2
  exact ⟨rfl, hb5.trans (hb6.mono hb5.size)⟩
end Go.Proofs.YthmmpjecmapajaaDoor

namespace Go.Proofs.YthmmpjecmapajaaDoor
open Go.RowKit
def fromB (i : Bool) : Nat := i.toNat
def rowE (x : Ev) : ByteArray := eventAt x.1 x.2.1 x.2.2
def rowsB (l : List Ev) : List UInt8 := l.flatMap fun x => (rowE x).data.toList
def dcOk (i : Bool) (d : Int) : Bool := if i then decide (1 ≤ d) && decide (d ≤ 254) else d == 0
def dcB (i : Bool) (d : Int) : List UInt8 := if i then rowOf (if d = 128 then 255 else d.toNat) 8 else []
def mayB (i : Bool) (d : Int) (l : List Ev) : Bool := dcOk i d && !badV (fromB i) l l.length
def rowB (i : Bool) (d : Int) (l : List Ev) : List UInt8 := dcB i d ++ rowsB l
theorem dcB_row (i : Bool) (d : Int) : isRow (dcB i d) = true := by
 unfold dcB
 split
 ·exact rowOf_row _ _
 ·rfl
theorem dcB_len (i : Bool) (d : Int) : (dcB i d).length = 8 * fromB i := by
 unfold dcB fromB
 cases i
 ·rfl
 ·exact rowOf_length _ _
theorem rowE_row (x : Ev) : isRow (rowE x).data.toList = true := by
 unfold rowE eventAt
 split
 ·exact rowOf_row _ _
 ·rfl
theorem rowE_len (x : Ev) : (rowE x).data.toList.length ≤ 22 := by
 unfold rowE eventAt
 split
 next h =>
  obtain ⟨r0, r1, _⟩ := rightT_iff.1 h
  have := num_fits x.1 x.2.1.toNat x.2.2 (by omega)
  show (rowOf _ _).length ≤ 22
  rw [rowOf_length]
  exact this.2.1
 ·exact Nat.zero_le _
theorem rowsB_row (l : List Ev) : isRow (rowsB l) = true := by
 induction l with
 | nil => rfl
 | cons x l ih => rw [rowsB, List.flatMap_cons, isRow_append, rowE_row, show isRow (List.flatMap (fun x => (rowE x).data.toList) l) = true from ih]; rfl
theorem rowsB_len (l : List Ev) : (rowsB l).length ≤ 22 * l.length := by
 induction l with
 | nil => exact Nat.le_refl _
 | cons x l ih =>
  have h1 := rowE_len x
  have h2 : (List.flatMap (fun x => (rowE x).data.toList) l).length ≤ 22 * l.length := ih
  rw [rowsB, List.flatMap_cons, List.length_append, List.length_cons]
  omega
theorem rowB_row (i : Bool) (d : Int) (l : List Ev) : isRow (rowB i d l) = true := by
 unfold rowB
 rw [isRow_append, dcB_row, rowsB_row]
 rfl
theorem rowB_len (i : Bool) (d : Int) (l : List Ev) : (rowB i d l).length ≤ 8 + 22 * l.length := by
 have h1 := dcB_len i d
 have h2 := rowsB_len l
 have h3 : fromB i ≤ 1 := by cases i <;> decide
 unfold rowB
 rw [List.length_append]
 omega
def evI (x : Bool × Nat × Int) : Ev := (x.1, (x.2.1 : Int), x.2.2)
def eloop (B : List UInt8) : Nat → List Ev → Nat → Nat → List Ev × Int × Nat
 | 0, _, _, _ => ([], 7, 0)
 | k + 1, acc, p, m =>
  if (etk (B.drop p)).2.1 ≠ 0 then ([], (etk (B.drop p)).2.1, 0) else
  if 63 < m + (etk (B.drop p)).1.2.1 then ([], 7, 0) else
  if (etk (B.drop p)).1.1 then (acc ++ [evI (etk (B.drop p)).1], 0, p + (etk (B.drop p)).2.2) else
  eloop B k (acc ++ [evI (etk (B.drop p)).1]) (p + (etk (B.drop p)).2.2) (m + (etk (B.drop p)).1.2.1 + 1)
theorem eloop_end {B : List UInt8} {k p m n r : Nat} {acc : List Ev} {v : Int} (h : etk (B.drop p) = ((true, r, v), 0, n)) (hr : m + r ≤ 63) : eloop B (k + 1) acc p m = (acc ++ [(true, (r : Int), v)], 0, p + n) := by
 rw [eloop, h, if_neg (fun h => h rfl), if_neg (by simp only; omega), if_pos rfl]
 rfl
theorem badV_len {a : Nat} {l : List Ev} (h : badV a l l.length = false) : l.length ≤ 64 := by
 have key : ∀ j, j ≤ l.length → j ≤ (lvS a (l.take j)).1 := by
  intro j
  induction j with
  | zero => intro _; exact Nat.zero_le _
  | succ j ih =>
   intro hj
   have h1 := ih (by omega)
   have h2 := lvS_more a l (show j < l.length by omega)
   rw [h2]
   simp only
   omega
 by_cases h64 : l.length ≤ 64
 ·exact h64
 ·exfalso
  have h1 := badV_ok h (show 64 < l.length by omega)
  have h2 := key 64 (by omega)
  unfold fitV at h1
  simp only [Bool.and_eq_true, decide_eq_true_eq] at h1
  omega
theorem badV_right {a : Nat} {l : List Ev} (h : badV a l l.length = false) {j : Nat} (hj : j < l.length) : rightT l[j].2.1 l[j].2.2 = true := by
 have h1 := badV_ok h hj
 unfold fitV at h1
 simp only [Bool.and_eq_true] at h1
 exact h1.1.1
theorem mayB_parts {i : Bool} {d : Int} {l : List Ev} (h : mayB i d l = true) : dcOk i d = true ∧ badV (fromB i) l l.length = false := by
 unfold mayB at h
 rw [Bool.and_eq_true, Bool.not_eq_true'] at h
 exact h
theorem lvG_ok {i : Bool} {l : List Ev} (h : badV (fromB i) l l.length = false) : (lvG l ((fromB i : Nat) : Int)).2 = 0 := by
 unfold lvG
 rw [if_pos (by cases i; exact .inl rfl; exact .inr rfl), Int.toNat_natCast, if_neg (by rw [h]; decide)]
theorem lvG_bad {i : Bool} {l : List Ev} (h : badV (fromB i) l l.length = true) : (lvG l ((fromB i : Nat) : Int)).2 = 7 := by
 unfold lvG
 rw [if_pos (by cases i; exact .inl rfl; exact .inr rfl), Int.toNat_natCast, if_pos h]
def EvR (S : List UInt8) (a p : Nat) (acc : List Ev) (m t : Nat) : Prop := ∃ k, 65 ≤ k + m ∧ eloop S (65 - a) [] p a = eloop S k acc t m
theorem EvR.first (S : List UInt8) (a p : Nat) : EvR S a p [] a p := ⟨65 - a, by omega, rfl⟩
theorem EvR.end {S : List UInt8} {a p m t n r : Nat} {acc : List Ev} {v : Int} (h : EvR S a p acc m t) (_ : m ≤ 64) (he : etk (S.drop t) = ((true, r, v), 0, n)) (hr : m + r ≤ 63) : eloop S (65 - a) [] p a = (acc ++ [(true, (r : Int), v)], 0, t + n) := by
 obtain ⟨k, hk, h⟩ := h
 obtain ⟨k, rfl⟩ : ∃ k', k = k' + 1 := ⟨k - 1, by omega⟩
 rw [h, eloop_end he hr]
theorem bfrom_code (i : Bool) (w : World) : Calls Tryd.prog 83 #[.bool i] w fun e w' => e = .returned (.int .i64 (fromB i : Nat)) ∧ w = w' := by
 cases i
 all_goals
  go_enter Tryd.func83, Tryd.ntmps83
  go_wp2
  go_ret
  exact ⟨rfl, rfl⟩
def FromB (B : Nat) (q : Option Addr) : Prop := ∀ x, q = some x → B ≤ x.block
theorem FromB.none (B : Nat) : FromB B none := fun _ h => by cases h
theorem FromB.mono {A B : Nat} {q : Option Addr} (h : FromB B q) (hab : A ≤ B) : FromB A q := fun x hx => Nat.le_trans hab (h x hx)
end Go.Proofs.YthmmpjecmapajaaDoor

namespace Go.Proofs.YthmmpjecmapajaaDoor
def intraK (k : Int) : Bool := k == 3 || k == 4
def stepK (k : Int) : Bool := k == 1 || k == 4
def hasE (c : Cel) (i : Nat) : Nat := (decide (0 < (c.ev i).length)).toNat
theorem hasE_lt (c : Cel) (i : Nat) : hasE c i ≤ 1 := by unfold hasE; cases decide (0 < (c.ev i).length) <;> decide
def codN (c : Cel) : Nat → Nat
 | 0 => 0
 | i + 1 => 2 * codN c i + hasE c i
def chrN (c : Cel) : Nat := 2 * hasE c 4 + hasE c 5
theorem cod_four (c : Cel) : codN c 4 = 8 * hasE c 0 + 4 * hasE c 1 + 2 * hasE c 2 + hasE c 3 := by
 simp only [codN]
 omega
theorem cod_six (c : Cel) : codN c 6 = 4 * codN c 4 + chrN c := by
 simp only [codN, chrN]
 omega
def blkN (c : Cel) : Nat → List UInt8
 | 0 => []
 | i + 1 => blkN c i ++ rowB (intraK c.kind) (c.dc i) (c.ev i)
def zeroC (c : Cel) : Bool := (c.kind == 0 && c.step == 0 && (c.mx == 0 && c.my == 0)) && ((List.range 6).all (fun i => c.dc i == 0) && (List.range 6).all (fun i => decide ((c.ev i).length = 0)))
def kinOk (inter : Bool) (k : Int) : Bool := (k == 3 || k == 4) || (inter && (k == 0 || k == 1))
def stpOk (k s : Int) : Bool := if stepK k then !(stepRow s).data.toList.isEmpty else s == 0
def vecOk (k mx my : Int) : Bool := if intraK k then mx == 0 && my == 0 else mx == wrap mx && my == wrap my
def blkOk (c : Cel) : Bool := (List.range 6).all fun i => mayB (intraK c.kind) (c.dc i) (c.ev i)
def celMay (inter : Bool) (c : Cel) : Bool :=
 (decide (0 ≤ c.stuff) && decide (c.stuff ≤ 64)) && (if c.skip then inter && zeroC c else (kinOk inter c.kind && stpOk c.kind c.step) && (vecOk c.kind c.mx c.my && blkOk c))
theorem blkOk_iff {c : Cel} : blkOk c = true ↔ ∀ i, i < 6 → mayB (intraK c.kind) (c.dc i) (c.ev i) = true := by
 unfold blkOk
 rw [List.all_eq_true]
 exact ⟨fun h i hi => h i (List.mem_range.2 hi), fun h i hi => h i (List.mem_range.1 hi)⟩
theorem blkN_len {c : Cel} {n : Nat} : ∀ i, (∀ j, j < i → (c.ev j).length ≤ n) → (blkN c i).length ≤ (8 + 22 * n) * i
 | 0, _ => Nat.le_refl _
 | i + 1, h => by
  have h1 := blkN_len i fun j hj => h j (by omega)
  have h2 := rowB_len (intraK c.kind) (c.dc i) (c.ev i)
  have h3 := h i (by omega)
  show (blkN c i ++ rowB (intraK c.kind) (c.dc i) (c.ev i)).length ≤ _
  rw [List.length_append, Nat.mul_add, Nat.mul_one]
  omega
end Go.Proofs.YthmmpjecmapajaaDoor

namespace Go.Proofs.YthmmpjecmapajaaDoor
open Go.RowKit Go.Lib Go.ChangeShapes Go.WideShapes Go.ChangeAt
theorem tcoef_text : (Rows.laid_overspill_tcoef_codes : DataW Unit) = tabData .u16 (codeZT.map fun z : Nat => (z : Int)) ∧ (Rows.laid_overspill_tcoef_lengths : DataW Unit) = tabData .u8 (lenZT.map fun z : Nat => (z : Int)) ∧ (Rows.laid_overspill_tcoef_ahead : DataW Unit) = tabData .u8 (aheadZT.map fun z : Nat => (z : Int)) := ⟨by kernel_rfl, by kernel_rfl, by kernel_rfl⟩
theorem nat_atE (l : List Nat) (i : Nat) (h : i < (l.map fun z : Nat => (z : Int)).length) : (l.map fun z : Nat => (z : Int))[i] = ((l[i]?.getD 0 : Nat) : Int) := by
 have h2 : i < l.length := by simpa using h
 rw [List.getElem_map, List.getElem?_eq_getElem h2]
 rfl
theorem nums_laid {P : Program} {W : World} {laid : List (String × DataW Unit)} {ps : List MemPlace} {name : String} {k : IntKind} {zs : List Int} {g : Nat} {t e : TypeId} {n : Nat} (hv : DataW.LaidVars P W laid ps) (hm : (name, (tabData k zs : DataW Unit)) ∈ laid)
  (hg : P.globalNamed name = some g) (ht : (P.globals[g]?).map (·.type) = some t) (hu : P.underlying t = some (.array n e)) (he : P.underlying e = some (.int k)) (hce : P.cellsOf e = 1) (hct : P.cellsOf t = n) (i : Nat) (hi : i < zs.length) :
  W.cell? ⟨g, i, none⟩ = some (.int k zs[i]) := by
 obtain ⟨g', t', cs, fuel, p, hg', ht', hc, hd⟩ := laid_one hv hm
 obtain rfl := Option.some.inj (hg.symm.trans hg')
 obtain rfl := Option.some.inj (ht.symm.trans ht')
 have h1 := cells_of_tab hu he hce hct hd
 have hcell := World.var?_cell hg hc i
 rw [hcell, ← Array.getElem?_toList, h1, List.getElem?_map, List.getElem?_eq_getElem hi]
 rfl
theorem tcoef_laid {laid : List (String × DataW Unit)} {W : World} (hL : laidMetH Tryd.prog laid W) (hm : (("overspill/tcoef.codes", Rows.laid_overspill_tcoef_codes) ∈ laid ∧ ("overspill/tcoef.lengths", Rows.laid_overspill_tcoef_lengths) ∈ laid ∧ ("overspill/tcoef.ahead", Rows.laid_overspill_tcoef_ahead) ∈ laid) ∧ (laid.all fun x => x.2.handleName?.isNone) = true) : HasT W := by
 rw [MakeChecks.laidMetH_plain _ _ _ hm.2] at hL
 obtain ⟨ps, hv, _, _⟩ := hL
 obtain ⟨h1, h2, h3⟩ := hm.1
 rw [tcoef_text.1] at h1
 rw [tcoef_text.2.1] at h2
 rw [tcoef_text.2.2] at h3
 have hlc : (codeZT.map fun z : Nat => (z : Int)).length = 103 := rfl
 have hll : (lenZT.map fun z : Nat => (z : Int)).length = 103 := rfl
 have hla : (aheadZT.map fun z : Nat => (z : Int)).length = 11 := rfl
 refine ⟨fun i hi => ?_, fun i hi => ?_⟩
 ·have g1 := nums_laid hv h1 (g := 1) (t := 131) (by kernel_rfl) (by kernel_rfl) Tryd.underlying131 Tryd.underlying130 (by kernel_rfl) (by kernel_rfl) i (by rw [hlc]; exact hi)
  have g2 := nums_laid hv h2 (g := 2) (t := 132) (by kernel_rfl) (by kernel_rfl) Tryd.underlying132 Tryd.underlying5 (by kernel_rfl) (by kernel_rfl) i (by rw [hll]; exact hi)
  rw [nat_atE] at g1 g2
  exact ⟨g1, g2⟩
 ·have g3 := nums_laid hv h3 (g := 3) (t := 136) (by kernel_rfl) (by kernel_rfl) Tryd.underlying136 Tryd.underlying5 (by kernel_rfl) (by kernel_rfl) i (by rw [hla]; exact hi)
  rw [nat_atE] at g3
  exact g3
end Go.Proofs.YthmmpjecmapajaaDoor

namespace Go.Proofs.YthmmpjecmapajaaDoor
open Go.RowKit Go.Lib Go.ChangeShapes Go.WideShapes Go.ChangeAt
theorem snd_laid {laid : List (String × DataW Unit)} {W : World} (hL : laidMetH Tryd.prog laid W)
  (hm : (("overspill/steps.codes", Rows.laid_overspill_steps_codes) ∈ laid ∧
   (("overspill/tcoef.codes", Rows.laid_overspill_tcoef_codes) ∈ laid ∧ ("overspill/tcoef.lengths", Rows.laid_overspill_tcoef_lengths) ∈ laid ∧ ("overspill/tcoef.ahead", Rows.laid_overspill_tcoef_ahead) ∈ laid)) ∧ (laid.all fun x => x.2.handleName?.isNone) = true) : HasT W ∧ HasSteps W :=
 ⟨tcoef_laid hL ⟨hm.1.2, hm.2⟩, steps_laid hL ⟨hm.1.1, hm.2⟩⟩
end Go.Proofs.YthmmpjecmapajaaDoor
