/- Texts that SoundSame's proof stands on, part 29 of 48. No condition of its own. -/
import Derived.Test.YthmmpjecmapajaaDoorSoundSameMc
import Derived.Test.YthmmpjecmapajaaDoorSoundSameMj
import Derived.Test.YthmmpjecmapajaaDoorSoundSameMw
import Derived.Test.YthmmpjecmapajaaDoorSoundSameMy
import Derived.Test.YthmmpjecmapajaaDoorSoundSameMba
import Derived.Test.YthmmpjecmapajaaDoorSoundSameMbb
import Derived.WalkMore
import Derived.IntWalk
import Derived.Laws.ResultCell
import Derived.Laws.Rows
namespace Go.Proofs.YthmmpjecmapajaaDoor
open Go.RowKit Go.Lib
def codeZT : List Nat := [2, 15, 21, 23, 31, 37, 36, 33, 32, 7, 6, 32, 6, 20, 30, 15, 33, 80, 14, 29, 14, 81, 13, 35, 13, 12, 34, 82, 11, 12, 83, 19, 11, 84, 18, 10, 17, 9, 16, 8, 22, 85, 21, 20, 28, 27, 33, 32, 31, 30, 29, 28, 27, 26, 34, 35, 86, 87, 7, 25, 5, 15, 4, 14, 13, 12, 19, 18, 17, 16, 26, 25, 24, 23, 22, 21, 20, 19, 24, 23, 22, 21, 20, 19, 18, 17, 7, 6, 5, 4, 36, 37, 38, 39, 88, 89, 90, 91, 92, 93, 94, 95, 3]
def lenZT : List Nat := [2, 4, 6, 7, 8, 9, 9, 10, 10, 11, 11, 11, 3, 6, 8, 10, 11, 12, 4, 8, 10, 12, 5, 9, 10, 5, 9, 12, 5, 10, 12, 6, 10, 12, 6, 10, 6, 10, 6, 10, 7, 12, 7, 7, 8, 8, 9, 9, 9, 9, 9, 9, 9, 9, 11, 11, 12, 12, 4, 9, 11, 6, 11, 6, 6, 6, 7, 7, 7, 7, 8, 8, 8, 8, 8, 8, 8, 8, 9, 9, 9, 9, 9, 9, 9, 9, 10, 10, 10, 10, 11, 11, 11, 11, 12, 12, 12, 12, 12, 12, 12, 12, 7]
def aheadZT : List Nat := [12, 6, 4, 3, 3, 3, 3, 2, 2, 2, 2]
def codeT (i : Nat) : Nat := codeZT[i]?.getD 0
def lenT (i : Nat) : Nat := lenZT[i]?.getD 0
def aheadT (i : Nat) : Nat := aheadZT[i]?.getD 0
theorem code_fits : ∀ i, i < 103 → 1 ≤ lenT i ∧ lenT i ≤ 12 ∧ codeT i < 2 ^ lenT i ∧ codeT i ≤ 95 := by decide +kernel
theorem ahead_fits : ∀ i, i < 11 → 1 ≤ aheadT i ∧ aheadT i ≤ 12 := by decide +kernel
def amtT (last : Bool) (run : Nat) : Nat :=
 if last then (if run = 0 then 3 else if run = 1 then 2 else if run ≤ 40 then 1 else 0) else (if run < 11 then aheadT run else if run ≤ 26 then 1 else 0)
theorem amtT_most (last : Bool) (run : Nat) : amtT last run ≤ 12 := by
 unfold amtT
 cases last
 ·simp only [Bool.false_eq_true, if_false]
  by_cases h : run < 11
  ·rw [if_pos h]; exact (ahead_fits run h).2
  ·rw [if_neg h]; split <;> omega
 ·simp only [if_true]
  repeat' split
  all_goals omega
def sumT (last : Bool) : Nat → Nat
 | 0 => 0
 | r + 1 => sumT last r + amtT last r
theorem sumT_most (last : Bool) : ∀ r, sumT last r ≤ 12 * r
 | 0 => Nat.le_refl _
 | r + 1 => by
  have := sumT_most last r
  have := amtT_most last r
  unfold sumT
  omega
def baseT (last : Bool) : Nat := if last then 58 else 0
def plT (last : Bool) (run amt : Nat) : Nat := baseT last + sumT last run + (amt - 1)
def inT (last : Bool) (run amt : Nat) : Bool := decide (1 ≤ amt) && decide (amt ≤ amtT last run)
theorem inT_lt : ∀ last : Bool, ∀ run, run < 64 → ∀ amt, amt < 13 → inT last run amt = true → plT last run amt < 102 := by decide +kernel
theorem plT_lt {last : Bool} {run amt : Nat} (hr : run < 64) (h : inT last run amt = true) : plT last run amt < 102 := by
 refine inT_lt last run hr amt ?_ h
 unfold inT at h
 rw [Bool.and_eq_true, decide_eq_true_iff, decide_eq_true_iff] at h
 have := amtT_most last run
 omega
def numT (last : Bool) (run : Nat) (level : Int) : Nat := if inT last run level.natAbs then 2 * codeT (plT last run level.natAbs) + (if level < 0 then 1 else 0) else ((6 + last.toNat) * 64 + run) * 256 + (level % 256).toNat
def digT (last : Bool) (run : Nat) (level : Int) : Nat := if inT last run level.natAbs then lenT (plT last run level.natAbs) + 1 else 22
def eventAt (last : Bool) (run level : Int) : ByteArray := if rightT run level then ⟨(rowOf (numT last run.toNat level) (digT last run.toNat level)).toArray⟩ else ⟨#[]⟩
def HasT (w : World) : Prop :=
 (∀ i, i < 103 → w.cell? ⟨1, i, none⟩ = some (.int .u16 (codeT i : Nat)) ∧ w.cell? ⟨2, i, none⟩ = some (.int .u8 (lenT i : Nat))) ∧
  ∀ i, i < 11 → w.cell? ⟨3, i, none⟩ = some (.int .u8 (aheadT i : Nat))
theorem HasT.lt {w : World} (h : HasT w) : 1 < w.heap.size ∧ 2 < w.heap.size ∧ 3 < w.heap.size :=
 ⟨World.block_lt_of_cell? w ⟨1, 0, none⟩ (h.1 0 (by decide)).1, World.block_lt_of_cell? w ⟨2, 0, none⟩ (h.1 0 (by decide)).2, World.block_lt_of_cell? w ⟨3, 0, none⟩ (h.2 0 (by decide))⟩
theorem HasT.below {w w' : World} (h : HasT w) (hb : Below w.heap.size w w') : HasT w' :=
 ⟨fun i hi => ⟨(hb.cell (p := ⟨1, i, none⟩) h.lt.1).trans (h.1 i hi).1, (hb.cell (p := ⟨2, i, none⟩) h.lt.2.1).trans (h.1 i hi).2⟩,
  fun i hi => (hb.cell (p := ⟨3, i, none⟩) h.lt.2.2).trans (h.2 i hi)⟩
theorem HasT.alloc {w : World} (h : HasT w) (o : Obj) : HasT (w.alloc o) := h.below ((Below.refl _ w).alloc (Nat.le_refl _) o)
theorem ret_twoE {a b c d : Int} {k k' : IntKind} (h : a = c) (h' : b = d) : Ending.returned (.tuple #[.int k a, .int k' b]) = .returned (.tuple #[.int k c, .int k' d]) := by rw [h, h']
theorem digit_one (b : Bool) (w : World) : Calls Tryd.prog 94 #[.bool b] w fun e w' => e = .returned (.int .i64 (b.toNat : Nat)) ∧ w = w' := by
 cases b
 all_goals
  go_enter Tryd.func94, Tryd.ntmps94
  go_wp2
  go_ret
  exact ⟨rfl, rfl⟩
theorem coded_codeE (i : Nat) (hi : i < 103) (w : World) (hp : HasT w) : Calls Tryd.prog 93 #[.int .i64 (i : Int)] w fun e w' => e = .returned (.tuple #[.int .i64 (codeT i : Nat), .int .i64 (lenT i : Nat)]) ∧ Below w.heap.size w w' := by
 obtain ⟨c0, c1⟩ := hp.1 i hi
 obtain ⟨b0, b1, _, b3⟩ := code_fits i hi
 generalize codeT i = x at c0 b3 ⊢
 generalize lenT i = y at c1 b0 b1 ⊢
 clear hp
 go_enter Tryd.func93, Tryd.ntmps93
 go_wp2
 go_region
 go_wp2
 go_ret2
 exact ⟨ret_twoE (by omega) (by omega), (Below.refl _ w).drew⟩
theorem digits_place (i : Nat) (hi : i < 103) (w : World) (hp : HasT w) : Calls Tryd.prog 95 #[.int .i64 (i : Int)] w fun e w' => e = .returned (.int .i64 ((if i = 102 then 22 else lenT i + 1 : Nat) : Int)) ∧ Below w.heap.size w w' := by
 have hcon := fun x hx => coded_codeE i hi x hx
 obtain ⟨b0, b1, _, b3⟩ := code_fits i hi
 by_cases h : i = 102
 ·subst h
  go_enter Tryd.func95, Tryd.ntmps95
  go_wp2_with fail
  refine (hcon _ hp).mono ?_
  rintro e w1 ⟨rfl, hb1⟩
  go_wp2
  go_ret
  exact ⟨rfl, hb1⟩
 ·rw [if_neg h]
  generalize lenT i = y at hcon b0 b1 ⊢
  have g0 : ((i : Int) == 102) = false := by rw [beq_eq_false_iff_ne]; omega
  clear h
  go_enter Tryd.func95, Tryd.ntmps95
  go_wp2_with fail
  refine (hcon _ hp).mono ?_
  rintro e w1 ⟨rfl, hb1⟩
  go_wp2
  go_ret
  exact ⟨ret_int (by omega), hb1⟩
theorem amounts_code (last : Bool) (r : Nat) (hr : r < 64) (w : World) (hp : HasT w) : Calls Tryd.prog 98 #[.bool last, .int .i64 (r : Int)] w fun e w' => e = .returned (.int .i64 (amtT last r : Nat)) ∧ w = w' := by
 cases last with
 | false =>
  by_cases h : r < 11
  ·have F := Lib.hid (show amtT false r = aheadT r by unfold amtT; simp [h])
   have c0 := hp.2 r h
   obtain ⟨b0, b1⟩ := ahead_fits r h
   rw [F.out]
   generalize aheadT r = y at c0 b0 b1 ⊢
   have t0 : decide ((r : Int) < 11) = true := by simp; omega
   clear F hp
   go_enter Tryd.func98, Tryd.ntmps98
   go_wp2
   go_ret
   exact ⟨ret_int (by omega), rfl⟩
  ·by_cases h2 : r ≤ 26
   ·have F := Lib.hid (show amtT false r = 1 by unfold amtT; simp [h, h2])
    have t0 : decide ((r : Int) < 11) = false := by simp; omega
    have t1 : decide ((r : Int) ≤ 26) = true := by simp; omega
    rw [F.out]
    clear h h2 hp
    go_enter Tryd.func98, Tryd.ntmps98
    go_wp2
    go_ret
    exact ⟨rfl, rfl⟩
   ·have F := Lib.hid (show amtT false r = 0 by unfold amtT; simp [h, h2])
    have t0 : decide ((r : Int) < 11) = false := by simp; omega
    have t1 : decide ((r : Int) ≤ 26) = false := by simp; omega
    rw [F.out]
    clear h h2 hp
    go_enter Tryd.func98, Tryd.ntmps98
    go_wp2
    go_ret
    exact ⟨rfl, rfl⟩
 | true =>
  by_cases h0 : r = 0
  ·subst h0
   go_enter Tryd.func98, Tryd.ntmps98
   go_wp2
   go_ret
   exact ⟨rfl, rfl⟩
  ·have g0 : ((r : Int) == 0) = false := by rw [beq_eq_false_iff_ne]; omega
   by_cases h1 : r = 1
   ·subst h1
    go_enter Tryd.func98, Tryd.ntmps98
    go_wp2
    go_ret
    exact ⟨rfl, rfl⟩
   ·have g1 : ((r : Int) == 1) = false := by rw [beq_eq_false_iff_ne]; omega
    by_cases h2 : r ≤ 40
    ·have F := Lib.hid (show amtT true r = 1 by unfold amtT; simp [h0, h1, h2])
     have t1 : decide ((r : Int) ≤ 40) = true := by simp; omega
     rw [F.out]
     clear h0 h1 h2 hp
     go_enter Tryd.func98, Tryd.ntmps98
     go_wp2
     go_ret
     exact ⟨rfl, rfl⟩
    ·have F := Lib.hid (show amtT true r = 0 by unfold amtT; simp [h0, h1, h2])
     have t1 : decide ((r : Int) ≤ 40) = false := by simp; omega
     rw [F.out]
     clear h0 h1 h2 hp
     go_enter Tryd.func98, Tryd.ntmps98
     go_wp2
     go_ret
     exact ⟨rfl, rfl⟩
theorem ret_placed {a c : Int} {k : IntKind} {b : Bool} (h : a = c) : Ending.returned (.tuple #[.int k a, .bool b]) = .returned (.tuple #[.int k c, .bool b]) := by rw [h]
set_option maxHeartbeats 1000000 in
theorem placed_code (last : Bool) (r : Nat) (level : Int) (hr : r < 64) (hl : -128 ≤ level ∧ level ≤ 127) (w : World) (hp : HasT w) : Calls Tryd.prog 92 #[.agg #[.bool last, .int .i64 (r : Int), .int .i64 level]] w fun e w' =>
  e = .returned (.tuple #[.int .i64 ((if inT last r level.natAbs then plT last r level.natAbs else 102 : Nat) : Int), .bool (inT last r level.natAbs)]) ∧ Below w.heap.size w w' := by
 have hb0 : ∀ o, Below w.heap.size w (w.alloc o) := fun o => (Below.refl _ w).alloc (Nat.le_refl _) o
 obtain ⟨a, ha⟩ : ∃ a : Nat, level.natAbs = a := ⟨_, rfl⟩
 rw [ha]
 by_cases h0 : level = 0
 ·subst h0
  obtain rfl : a = 0 := by omega
  have F := Lib.hid (show inT last r 0 = false by unfold inT; simp)
  rw [F.out]
  go_enter Tryd.func92, Tryd.ntmps92
  go_wp2
  go_ret2
  exact ⟨rfl, hb0 _⟩
 have hm := amtT_most last r
 have hcon := fun x hx => amounts_code last r hr x hx
 have hsum := sumT_most last r
 have hmo : ∀ j, j < r → baseT last + sumT last (j + 1) ≤ 900 := fun j hj => by have := sumT_most last (j + 1); have hbs : baseT last ≤ 58 := by { cases last <;> decide }; omega
 have hpl : plT last r a = baseT last + sumT last r + (a - 1) := rfl
 have hin : inT last r a = (decide (1 ≤ a) && decide (a ≤ amtT last r)) := rfl
 have hsuc : ∀ j, sumT last (j + 1) = sumT last j + amtT last j := fun j => rfl
 have hcon2 := fun (j : Nat) (hj : j < r) x hx => amounts_code last j (by omega) x hx
 have hm2 := fun (j : Nat) => amtT_most last j
 have HP := Lib.hid (fun (x : World) (hx : Below w.heap.size w x) => (hp.below hx : HasT x))
 by_cases hin1 : a ≤ amtT last r
 ·have F := Lib.hid (show inT last r a = true by rw [hin]; simp; omega)
  rw [F.out, if_pos rfl]
  have HPL := Lib.hid hpl
  have SUC := Lib.hid hsuc
  have MO := Lib.hid hmo
  have CON2 := Lib.hid hcon2
  have M2 := Lib.hid hm2
  generalize amtT last r = m at hcon hm hin1 hin
  have t0 : decide ((m : Int) < a) = false := by simp; omega
  have t1 : decide (m < a) = false := by simp; omega
  have qw : IntKind.i64.wrap (-(a : Int)) = -(a : Int) := IntWalk.i64_in _ (by omega)
  have g0 : ((a : Int) == 0) = false := by rw [beq_eq_false_iff_ne]; omega
  have hl2 : level = (a : Int) ∨ level = -(a : Int) := by omega
  have ha0 : 0 < a := by omega
  have ha1 : a ≤ 128 := by omega
  clear hp hin h0 ha hl hin1 F hpl hsuc hmo hcon2 hm2
  have hbl : Below w.heap.size w (w.alloc (.cells #[.bool last, .int .i64 (r : Int), .int .i64 level] 55 (0, 0))) := hb0 _
  have hp1 := HP.out _ hbl
  have hz0 : sumT last 0 = 0 := rfl
  generalize sumT last = sm at HPL SUC MO hsum hz0
  generalize amtT last = am at SUC CON2 M2
  generalize hbse : baseT last = bse at HPL MO
  have HBS := Lib.hid hbse
  have S0 := Lib.hid hz0
  clear hz0 hbse hsum
  cases last
  all_goals
   rcases hl2 with rfl | rfl
   all_goals
    go_enter Tryd.func92, Tryd.ntmps92
    go_wp2_with fail
    refine (hcon _ hp1).mono ?_
    rintro e w1 ⟨rfl, rfl⟩
    clear hcon
    go_wp2
    go_loop [5, 32] (fun u v => ∃ (j x : Nat), j ≤ r ∧ v = .int .i64 j ∧ u = .int .i64 ((a : Int) - 1 + x) ∧ x ≤ 900 ∧ Hid (x = bse + sm j)) (fun _ v => 64 - (intOf v).toNat)
    case atStart => exact ⟨0, bse, Nat.zero_le _, rfl, by rw [← HBS.out]; simp [baseT], by rw [← HBS.out]; decide, Lib.hid (by rw [S0.out]; rfl)⟩
    case round =>
     obtain ⟨j, x, hj, rfl, rfl, hx, hxx⟩ := hrel
     by_cases hlt : j < r
     ·have t1 : decide ((j : Int) < r) = true := by simp; omega
      have hc2 := CON2.out j hlt _ hp1
      have M := M2.out j
      have S := Lib.hid (SUC.out j)
      have XX := Lib.hid (show x + am j ≤ 900 by have := MO.out j hlt; rw [S.out] at this; rw [hxx.out]; omega)
      generalize am j = y at hc2 M S XX
      go_wp2_with fail
      refine hc2.mono ?_
      rintro e w1 ⟨rfl, rfl⟩
      go_wp2
      go_round
      case rel => exact ⟨j + 1, x + y, by omega, by go_num, by go_num, XX.out, Lib.hid (by rw [hxx.out, S.out, Nat.add_assoc])⟩
      case measure => simp [intOf]; omega
     ·obtain rfl : j = r := by omega
      have t2 : decide (j < j) = false := by simp
      go_wp2
      go_ret2
      exact ⟨ret_placed (by rw [HPL.out]; have := hxx.out; omega), hbl⟩
 ·have F := Lib.hid (show inT last r a = false by rw [hin]; simp; omega)
  rw [F.out, if_neg (by decide)]
  generalize amtT last r = m at hcon hm hin1 hin
  have t0 : decide ((m : Int) < a) = true := by simp; omega
  have t1 : decide (m < a) = true := by simp; omega
  have qw : IntKind.i64.wrap (-(a : Int)) = -(a : Int) := IntWalk.i64_in _ (by omega)
  have g0 : ((a : Int) == 0) = false := by rw [beq_eq_false_iff_ne]; omega
  have hl2 : level = (a : Int) ∨ level = -(a : Int) := by omega
  have ha0 : 0 < a := by omega
  have ha1 : a ≤ 128 := by omega
  clear hp hin h0 ha hl hin1 F hpl hsuc hmo hcon2 hm2
  have hbl : Below w.heap.size w (w.alloc (.cells #[.bool last, .int .i64 (r : Int), .int .i64 level] 55 (0, 0))) := hb0 _
  have hp1 := HP.out _ hbl
  rcases hl2 with rfl | rfl
  all_goals
   go_enter Tryd.func92, Tryd.ntmps92
   go_wp2_with fail
   refine (hcon _ hp1).mono ?_
   rintro e w1 ⟨rfl, rfl⟩
   go_wp2
   go_ret2
   exact ⟨rfl, hbl⟩
end Go.Proofs.YthmmpjecmapajaaDoor

namespace Go.Proofs.YthmmpjecmapajaaDoor
def rowT (i : Nat) : ByteArray := ⟨(rowOf (codeT i) (lenT i)).toArray⟩
def cellT (i : Nat) : ByteArray × Int := (rowT i, i)
def allT : List (ByteArray × Int) := (List.range 103).map cellT
def evZ : List (Bool × Nat × Nat) := (List.range 27).flatMap (fun r => (List.range (amtT false r)).map fun i => (false, r, i + 1)) ++ (List.range 41).flatMap (fun r => (List.range (amtT true r)).map fun i => (true, r, i + 1))
def evT (p : Nat) : Bool × Nat × Nat := evZ[p]?.getD (false, 0, 0)
def escT (v : Nat) : Bool × Nat × Int := (v / 16384 % 2 == 1, v / 256 % 64, if 127 < v % 256 then ((v % 256 : Nat) : Int) - 256 else ((v % 256 : Nat) : Int))
def signT (x : Bool × Nat × Nat) (s : Bool) : Bool × Nat × Int := (x.1, x.2.1, if s then -(x.2.2 : Int) else (x.2.2 : Int))
def etk (b : List UInt8) : (Bool × Nat × Int) × Int × Nat :=
 if (gtk allT b).2.1 ≠ 0 then ((false, 0, 0), (gtk allT b).2.1, 0) else
 if (gtk allT b).1.toNat = 102 then
  if b.length < 22 then ((false, 0, 0), 2, 0) else
  if rightT (escT (num (b.take 22))).2.1 (escT (num (b.take 22))).2.2 && !inT (escT (num (b.take 22))).1 (escT (num (b.take 22))).2.1 (escT (num (b.take 22))).2.2.natAbs then (escT (num (b.take 22)), 0, 22) else ((false, 0, 0), 7, 0)
 else
  if b.length < lenT (gtk allT b).1.toNat + 1 then ((false, 0, 0), 2, 0) else
  (signT (evT (gtk allT b).1.toNat) (num (b.take (lenT (gtk allT b).1.toNat + 1)) % 2 == 1), 0, lenT (gtk allT b).1.toNat + 1)
end Go.Proofs.YthmmpjecmapajaaDoor
