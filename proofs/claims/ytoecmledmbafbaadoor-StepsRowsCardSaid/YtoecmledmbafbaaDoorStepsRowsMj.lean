/- Texts that StepsRows's proof stands on, part 10 of 10. No condition of its own. -/
import Derived.Test.YtoecmledmbafbaaDoorStepsRowsMf
import Derived.Test.YtoecmledmbafbaaDoorStepsRowsMg
import Derived.Test.YtoecmledmbafbaaDoorStepsRowsMh
import Derived.Test.YtoecmledmbafbaaDoorStepsRowsMi
import Derived.WalkKit
import Derived.WalkMore
import Derived.IntWalk
import Derived.Lib.Strings
import Derived.Test.YtoecmledmbafbaaDoorRows
namespace Go.Proofs.YtoecmledmbafbaaDoor
open Go.RowKit Go.Lib
def stepZ : List Int := [-1, -2, 1, 2]
def stepR : List ByteArray := [⟨#[48, 48]⟩, ⟨#[48, 49]⟩, ⟨#[49, 48]⟩, ⟨#[49, 49]⟩]
def stepN (v : Nat) : Int := stepZ[v]?.getD 0
def stepRow (s : Int) : ByteArray := if s = -1 then ⟨#[48, 48]⟩ else if s = -2 then ⟨#[48, 49]⟩ else if s = 1 then ⟨#[49, 48]⟩ else if s = 2 then ⟨#[49, 49]⟩ else ⟨#[]⟩
theorem stepRow_none {s : Int} (h : ¬ s = -1 ∧ ¬ s = -2 ∧ ¬ s = 1 ∧ ¬ s = 2) : stepRow s = ⟨#[]⟩ := by
 unfold stepRow
 rw [if_neg h.1, if_neg h.2.1, if_neg h.2.2.1, if_neg h.2.2.2]
def stk (b : List UInt8) : Int × Int × Nat := if b.length < 2 then (0, 2, 0) else (stepN (num (b.take 2)), 0, 2)
theorem stk_few {b : List UInt8} (h : b.length < 2) : stk b = (0, 2, 0) := if_pos h
theorem stk_some {b : List UInt8} (h : 2 ≤ b.length) : stk b = (stepN (num (b.take 2)), 0, 2) := if_neg (by omega)
def nextQ (q s : Int) : Int := clip (clip q 1 31 + clip s (-2) 2) 1 31
def betQ (a b : Int) : Int × Bool := if 1 ≤ a ∧ a ≤ 31 ∧ 1 ≤ b ∧ b ≤ 31 ∧ -2 ≤ b - a ∧ b - a ≤ 2 then (b - a, true) else (0, false)
theorem betQ_not {a b : Int} (h : ¬ (1 ≤ a ∧ a ≤ 31 ∧ 1 ≤ b ∧ b ≤ 31 ∧ -2 ≤ b - a ∧ b - a ≤ 2)) : betQ a b = (0, false) := if_neg h
def HasSteps (w : World) : Prop := ∀ i, (h : i < 4) → w.cell? ⟨0, 2 * i, none⟩ = some (.string (stepR[i]'h)) ∧ w.cell? ⟨0, 2 * i + 1, none⟩ = some (.int .i64 (stepZ[i]'h))
theorem HasSteps.lt {w : World} (h : HasSteps w) : 0 < w.heap.size := World.block_lt_of_cell? w ⟨0, 0, none⟩ (h 0 (by decide)).1
theorem HasSteps.below {w w' : World} (h : HasSteps w) (hb : Below w.heap.size w w') : HasSteps w' := fun i hi =>
 ⟨(hb.cell (p := ⟨0, 2 * i, none⟩) h.lt).trans (h i hi).1, (hb.cell (p := ⟨0, 2 * i + 1, none⟩) h.lt).trans (h i hi).2⟩
theorem HasSteps.grown {w w' : World} {b : Nat} (h : HasSteps w) (hg : w.grownBy w' (some b)) (hne : 0 ≠ b) : HasSteps w' := fun i hi => by
 have e : ∀ o, w'.cell? ⟨0, o, none⟩ = w.cell? ⟨0, o, none⟩ := fun o => by
  have := hg.block 0 h.lt (by simpa using hne)
  unfold World.cell?
  rw [this]
 exact ⟨(e _).trans (h i hi).1, (e _).trans (h i hi).2⟩
set_option maxHeartbeats 400000 in
theorem clipped_code (n : Int) (w : World) : Calls Tryd.prog 22 #[.int .i64 n] w fun e w' => e = .returned (.int .i64 (clip n 1 31)) ∧ w = w' := by
 have c := fun w => clip_code n 1 31 w
 generalize clip n 1 31 = q at c ⊢
 go_enter Tryd.func22, Tryd.ntmps22
 go_wp2_with (with_reducible refine (c _).mono ?_; rintro e w1 ⟨rfl, rfl⟩)
 go_ret
 exact ⟨rfl, rfl⟩
set_option maxHeartbeats 400000 in
theorem next_code (q s : Int) (w : World) : Calls Tryd.prog 17 #[.int .i64 q, .int .i64 s] w fun e w' => e = .returned (.int .i64 (nextQ q s)) ∧ w = w' := by
 have c1 := fun w => clipped_code q w
 have c2 := fun w => clip_code s (-2) 2 w
 have c3 := fun w => clipped_code (clip q 1 31 + clip s (-2) 2) w
 have h1 : 1 ≤ clip q 1 31 ∧ clip q 1 31 ≤ 31 := ⟨clip_lo _ _ _, clip_hi _ _ _ (by omega)⟩
 have h2 : -2 ≤ clip s (-2) 2 ∧ clip s (-2) 2 ≤ 2 := ⟨clip_lo _ _ _, clip_hi _ _ _ (by omega)⟩
 unfold nextQ
 generalize clip q 1 31 = a at *
 generalize clip s (-2) 2 = b at *
 generalize clip (a + b) 1 31 = c at *
 obtain ⟨a1, a2⟩ := h1
 obtain ⟨b1, b2⟩ := h2
 go_enter Tryd.func17, Tryd.ntmps17
 go_wp2_with fail
 refine (c1 _).mono ?_
 rintro e w1 ⟨rfl, rfl⟩
 go_wp2_with fail
 refine (c2 _).mono ?_
 rintro e w1 ⟨rfl, rfl⟩
 go_wp2_with fail
 refine (c3 _).mono ?_
 rintro e w1 ⟨rfl, rfl⟩
 go_wp2
 go_ret
 exact ⟨rfl, rfl⟩
def NoneTo (a b : Int) (i : Nat) : Prop := ∀ j : Nat, j < i → nextQ a (j : Int) ≠ b ∧ nextQ a (-(j : Int)) ≠ b
theorem NoneTo.first (a b : Int) : NoneTo a b 0 := fun j h => absurd h (Nat.not_lt_zero j)
theorem NoneTo.next {a b : Int} {i : Nat} (h : NoneTo a b i) (h1 : nextQ a (i : Int) ≠ b) (h2 : nextQ a (-(i : Int)) ≠ b) : NoneTo a b (i + 1) := fun j hj => by
 by_cases e : j = i
 ·subst e; exact ⟨h1, h2⟩
 ·exact h j (by omega)
theorem bet_up {a b : Int} {i : Nat} (ha : 1 ≤ a ∧ a ≤ 31) (hi : i < 3) (hn : NoneTo a b i) (h : nextQ a (i : Int) = b) : betQ a b = ((i : Int), true) := by
 have h0 := hn 0
 have h1 := hn 1
 unfold betQ
 rcases (by omega : i = 0 ∨ i = 1 ∨ i = 2) with rfl | rfl | rfl
 all_goals
  simp only [nextQ, clip] at h h0 h1
  rw [if_pos (by omega)]
  simp only [Prod.mk.injEq, and_true]
  omega
theorem bet_down {a b : Int} {i : Nat} (ha : 1 ≤ a ∧ a ≤ 31) (hi : i < 3) (hn : NoneTo a b i) (h : nextQ a (-(i : Int)) = b) : betQ a b = (-(i : Int), true) := by
 have h0 := hn 0
 have h1 := hn 1
 unfold betQ
 rcases (by omega : i = 0 ∨ i = 1 ∨ i = 2) with rfl | rfl | rfl
 all_goals
  simp only [nextQ, clip] at h h0 h1
  rw [if_pos (by omega)]
  simp only [Prod.mk.injEq, and_true]
  omega
theorem bet_none {a b : Int} (ha : 1 ≤ a ∧ a ≤ 31) (hn : NoneTo a b 3) : betQ a b = (0, false) := by
 have h0 := hn 0 (by decide)
 have h1 := hn 1 (by decide)
 have h2 := hn 2 (by decide)
 refine betQ_not fun h => ?_
 simp only [nextQ, clip] at h0 h1 h2
 omega
theorem ret_pair {a b : Int × Bool} (h : a = b) : Ending.returned (.tuple #[.int .i64 a.1, .bool a.2]) = .returned (.tuple #[.int .i64 b.1, .bool b.2]) := by rw [h]
set_option maxHeartbeats 1000000 in
theorem bet_code (a b : Int) (w : World) : Calls Tryd.prog 15 #[.int .i64 a, .int .i64 b] w fun e w' => e = .returned (.tuple #[.int .i64 (betQ a b).1, .bool (betQ a b).2]) ∧ w = w' := by
 have c1 := fun w => clipped_code a w
 by_cases ha : 1 ≤ a ∧ a ≤ 31
 ·rw [show clip a 1 31 = a by unfold clip; omega] at c1
  have t0 : (a == a) = true := beq_self_eq_true a
  have HA := Lib.hid ha
  clear ha
  go_enter Tryd.func15, Tryd.ntmps15
  go_wp2_with fail
  refine (c1 _).mono ?_
  rintro e w1 ⟨rfl, rfl⟩
  go_wp2
  go_loop [11] (fun v => ∃ i : Nat, i ≤ 3 ∧ v = .int .i64 i ∧ Hid (NoneTo a b i)) (fun v => 3 - (intOf v).toNat)
  case atStart => exact ⟨0, by omega, rfl, Lib.hid (NoneTo.first a b)⟩
  case round =>
   obtain ⟨i, hi3, rfl, hno⟩ := hrel
   by_cases hlt : i < 3
   ·have n1 := fun w => next_code a (i : Int) w
    have n2 := fun w => next_code a (-(i : Int)) w
    have U := Lib.hid (fun h => bet_up HA.out hlt hno.out h)
    have D := Lib.hid (fun h => bet_down HA.out hlt hno.out h)
    have M := Lib.hid (fun h1 h2 => hno.out.next h1 h2)
    clear hno
    generalize nextQ a (i : Int) = x at n1 U M
    generalize nextQ a (-(i : Int)) = y at n2 D M
    by_cases hx : x = b
    ·have R := Lib.hid (U.out hx)
     have g0 : (x == b) = true := by rw [beq_iff_eq]; exact hx
     clear hx
     go_wp2_with fail
     refine (n1 _).mono ?_
     rintro e w1 ⟨rfl, rfl⟩
     go_wp2
     go_ret2
     exact ⟨ret_pair R.out.symm, rfl⟩
    ·have g0 : (x == b) = false := by rw [beq_eq_false_iff_ne]; exact hx
     by_cases hy : y = b
     ·have R := Lib.hid (D.out hy)
      have g1 : (y == b) = true := by rw [beq_iff_eq]; exact hy
      clear hx hy
      go_wp2_with fail
      refine (n1 _).mono ?_
      rintro e w1 ⟨rfl, rfl⟩
      go_wp2_with fail
      refine (n2 _).mono ?_
      rintro e w1 ⟨rfl, rfl⟩
      go_wp2
      go_ret2
      exact ⟨ret_pair R.out.symm, rfl⟩
     ·have g1 : (y == b) = false := by rw [beq_eq_false_iff_ne]; exact hy
      have N := Lib.hid (M.out hx hy)
      clear hx hy
      go_wp2_with fail
      refine (n1 _).mono ?_
      rintro e w1 ⟨rfl, rfl⟩
      go_wp2_with fail
      refine (n2 _).mono ?_
      rintro e w1 ⟨rfl, rfl⟩
      go_wp2
      go_round
      case rel => exact ⟨i + 1, by omega, by go_num, N⟩
      case measure => simp [intOf]; omega
   ·obtain rfl : i = 3 := by omega
    have R := Lib.hid (bet_none HA.out hno.out)
    go_wp2
    go_ret2
    exact ⟨ret_pair R.out.symm, rfl⟩
 ·have F := Lib.hid (betQ_not (a := a) (b := b) (by omega))
  have t0 : (a == clip a 1 31) = false := by rw [beq_eq_false_iff_ne]; unfold clip; omega
  rw [F.out]
  generalize clip a 1 31 = q at *
  clear ha
  go_enter Tryd.func15, Tryd.ntmps15
  go_wp2_with fail
  refine (c1 _).mono ?_
  rintro e w1 ⟨rfl, rfl⟩
  go_wp2
  go_ret2
  exact ⟨rfl, rfl⟩
def NoStep (s : Int) (i : Nat) : Prop := ∀ j, j < i → stepN j ≠ s
theorem NoStep.first (s : Int) : NoStep s 0 := fun j h => absurd h (Nat.not_lt_zero j)
theorem NoStep.next {s : Int} {i : Nat} (h : NoStep s i) (h1 : stepN i ≠ s) : NoStep s (i + 1) := fun j hj => by
 by_cases e : j = i
 ·subst e; exact h1
 ·exact h j (by omega)
theorem NoStep.all {s : Int} (h : NoStep s 4) : ¬ s = -1 ∧ ¬ s = -2 ∧ ¬ s = 1 ∧ ¬ s = 2 :=
 ⟨fun e => h 0 (by decide) e.symm, fun e => h 1 (by decide) e.symm, fun e => h 2 (by decide) e.symm, fun e => h 3 (by decide) e.symm⟩
theorem step_at (s : Int) (i : Nat) (z : Int) (h : stepN i = z) : ((z == z) = true ∧ s = z) ∨ ((z == s) = false ∧ stepN i ≠ s) := by
 by_cases e : s = z
 ·exact .inl ⟨beq_self_eq_true z, e⟩
 ·exact .inr ⟨by rw [beq_eq_false_iff_ne]; exact fun h => e h.symm, by rw [h]; exact fun h => e h.symm⟩
def stepV : Value := .agg #[.string ⟨#[48, 48]⟩, .int .i64 (-1), .string ⟨#[48, 49]⟩, .int .i64 (-2), .string ⟨#[49, 48]⟩, .int .i64 1, .string ⟨#[49, 49]⟩, .int .i64 2]
theorem stepV_at (w : World) : (Instr.index 44 stepV (.int .i64 0)).run Tryd.prog w = .ok (.agg #[.string ⟨#[48, 48]⟩, .int .i64 (-1)]) w ∧ (Instr.index 44 stepV (.int .i64 1)).run Tryd.prog w = .ok (.agg #[.string ⟨#[48, 49]⟩, .int .i64 (-2)]) w ∧
  (Instr.index 44 stepV (.int .i64 2)).run Tryd.prog w = .ok (.agg #[.string ⟨#[49, 48]⟩, .int .i64 1]) w ∧ (Instr.index 44 stepV (.int .i64 3)).run Tryd.prog w = .ok (.agg #[.string ⟨#[49, 49]⟩, .int .i64 2]) w :=
 ⟨by kernel_rfl, by kernel_rfl, by kernel_rfl, by kernel_rfl⟩
set_option maxHeartbeats 1000000 in
theorem srow_code (s : Int) (w : World) (hp : HasSteps w) : Calls Tryd.prog 6 #[.int .i64 s] w fun e w' => e = .returned (.tuple #[.string (stepRow s), .bool (!(stepRow s).data.toList.isEmpty)]) ∧ Below w.heap.size w w' := by
 have c0 : w.cell? ⟨0, 0, none⟩ = some (.string ⟨#[48, 48]⟩) := (hp 0 (by decide)).1
 have c1 : w.cell? ⟨0, 1, none⟩ = some (.int .i64 (-1)) := (hp 0 (by decide)).2
 have c2 : w.cell? ⟨0, 2, none⟩ = some (.string ⟨#[48, 49]⟩) := (hp 1 (by decide)).1
 have c3 : w.cell? ⟨0, 3, none⟩ = some (.int .i64 (-2)) := (hp 1 (by decide)).2
 have c4 : w.cell? ⟨0, 4, none⟩ = some (.string ⟨#[49, 48]⟩) := (hp 2 (by decide)).1
 have c5 : w.cell? ⟨0, 5, none⟩ = some (.int .i64 1) := (hp 2 (by decide)).2
 have c6 : w.cell? ⟨0, 6, none⟩ = some (.string ⟨#[49, 49]⟩) := (hp 3 (by decide)).1
 have c7 : w.cell? ⟨0, 7, none⟩ = some (.int .i64 2) := (hp 3 (by decide)).2
 have HV := Lib.hid (show Value.agg #[.string ⟨#[48, 48]⟩, .int .i64 (-1), .string ⟨#[48, 49]⟩, .int .i64 (-2), .string ⟨#[49, 48]⟩, .int .i64 1, .string ⟨#[49, 49]⟩, .int .i64 2] = stepV from rfl)
 go_enter Tryd.func6, Tryd.ntmps6
 go_wp2
 rw [HV.out]
 clear c0 c1 c2 c3 c4 c5 c6 c7 hp HV
 have i0 := fun w => (stepV_at w).1
 have i1 := fun w => (stepV_at w).2.1
 have i2 := fun w => (stepV_at w).2.2.1
 have i3 := fun w => (stepV_at w).2.2.2
 generalize stepV = pv at *
 obtain ⟨B, hB⟩ : ∃ B, w.heap.size = B := ⟨_, rfl⟩
 have hb0 : Below B w w := Below.refl _ _
 have hz0 : B ≤ w.heap.size := by omega
 go_loopw [7] (fun v wr => ∃ i : Nat, i ≤ 4 ∧ v = .int .i64 i ∧ Hid (NoStep s i) ∧ Below B w wr ∧ B ≤ wr.heap.size) (fun v _ => 4 - (intOf v).toNat)
 case atStart => exact ⟨0, by omega, rfl, Lib.hid (NoStep.first s), hb0, hz0⟩
 case round =>
  obtain ⟨i, hi4, rfl, hno, hb, hz⟩ := hrel
  have hb1 := fun o => hb.alloc hz o
  clear hb0 hz0
  rcases (by omega : i = 4 ∨ i = 0 ∨ i = 1 ∨ i = 2 ∨ i = 3) with rfl | rfl | rfl | rfl | rfl
  ·have R := Lib.hid (stepRow_none hno.out.all)
   go_wp2
   go_ret2
   exact ⟨by rw [R.out]; rfl, by rw [hB]; exact hb⟩
  ·rcases step_at s 0 (-1) rfl with ⟨e1, rfl⟩ | ⟨e1, e2⟩
   ·go_wp2
    go_ret2
    exact ⟨rfl, by rw [hB]; exact hb1 _⟩
   ·have N := Lib.hid (hno.out.next e2)
    clear e2
    go_wp2
    go_roundw
    case rel => exact ⟨1, by omega, by go_num, N, hb1 _, by simp; omega⟩
    case measure => simp [intOf]
  ·rcases step_at s 1 (-2) rfl with ⟨e1, rfl⟩ | ⟨e1, e2⟩
   ·go_wp2
    go_ret2
    exact ⟨rfl, by rw [hB]; exact hb1 _⟩
   ·have N := Lib.hid (hno.out.next e2)
    clear e2
    go_wp2
    go_roundw
    case rel => exact ⟨2, by omega, by go_num, N, hb1 _, by simp; omega⟩
    case measure => simp [intOf]
  ·rcases step_at s 2 1 rfl with ⟨e1, rfl⟩ | ⟨e1, e2⟩
   ·go_wp2
    go_ret2
    exact ⟨rfl, by rw [hB]; exact hb1 _⟩
   ·have N := Lib.hid (hno.out.next e2)
    clear e2
    go_wp2
    go_roundw
    case rel => exact ⟨3, by omega, by go_num, N, hb1 _, by simp; omega⟩
    case measure => simp [intOf]
  ·rcases step_at s 3 2 rfl with ⟨e1, rfl⟩ | ⟨e1, e2⟩
   ·go_wp2
    go_ret2
    exact ⟨rfl, by rw [hB]; exact hb1 _⟩
   ·have N := Lib.hid (hno.out.next e2)
    clear e2
    go_wp2
    go_roundw
    case rel => exact ⟨4, by omega, by go_num, N, hb1 _, by simp; omega⟩
    case measure => simp [intOf]
theorem stake_nil (w : World) : Calls Tryd.prog 11 #[.pointer none] w fun e w' => e = .returned (.tuple #[.int .i64 0, .int .i64 1]) ∧ w = w' := by
 go_enter Tryd.func11, Tryd.ntmps11
 go_wp2_with fail
 refine (take_nil _ _).mono ?_
 rintro e w1 ⟨rfl, rfl⟩
 go_wp2
 go_ret2
 exact ⟨rfl, rfl⟩
def STake (s : ByteArray) (rb p : Nat) (w : World) (e : Ending) (w' : World) : Prop :=
 e = .returned (.tuple #[.int .i64 (stk ((showL s.data.toList).drop p)).1, .int .i64 (stk ((showL s.data.toList).drop p)).2.1]) ∧
  IsRd w' rb s (p + (stk ((showL s.data.toList).drop p)).2.2) ∧ w.grownBy w' (some rb)
theorem stk_len (s : ByteArray) (p : Nat) : ((showL s.data.toList).drop p).length = 8 * s.size - p := by rw [List.length_drop, showL_length]; rfl
set_option maxHeartbeats 1000000 in
theorem stake_code (w : World) (rb : Nat) (s : ByteArray) (p : Nat) (hp : HasSteps w) (hne : 0 ≠ rb) (hr : IsRd w rb s p) : Calls Tryd.prog 11 #[.pointer (some ⟨rb, 0, none⟩)] w (STake s rb p w) := by
 have hpl := hr.2.1
 have hl := stk_len s p
 have hdl : s.data.toList.length = s.size := rfl
 unfold STake
 have hc := take_code w rb s p 2 hr
 by_cases h2 : 8 * s.size - p < 2
 ·have hs := stk_few (b := (showL s.data.toList).drop p) (by omega)
  have ha : ask s.data.toList p 2 = (0, 2) := ask_short (by omega) (by rw [hdl]; omega)
  have hto : askTo s.data.toList p 2 = p := by unfold askTo; rw [ha]; rfl
  rw [ha, hto] at hc
  rw [hs]
  clear hs ha hto hl
  go_enter Tryd.func11, Tryd.ntmps11
  go_wp2_with fail
  refine hc.mono ?_
  rintro e w1 ⟨rfl, hr1, hg1⟩
  go_wp2
  go_ret2
  exact ⟨rfl, hr1, hg1⟩
 ·have hs := stk_some (b := (showL s.data.toList).drop p) (by omega)
  have ha : ask s.data.toList p 2 = (((tell s.data.toList p 2 : Nat) : Int), 0) := ask_ok (by omega) (by rw [hdl]; omega)
  have hto : askTo s.data.toList p 2 = p + 2 := by unfold askTo; rw [ha]; rfl
  have hv := tell_lt s.data.toList p 2
  have ht : num (((showL s.data.toList).drop p).take 2) = tell s.data.toList p 2 := rfl
  rw [ha, hto] at hc
  rw [hs, ht]
  obtain ⟨v, hv'⟩ : ∃ v, tell s.data.toList p 2 = v := ⟨_, rfl⟩
  rw [hv'] at hc hv ⊢
  have HP := Lib.hid (fun w' (hg : w.grownBy w' (some rb)) => (hp.grown hg hne : HasSteps w'))
  clear hs ha hto hl ht hv' hp
  rcases (by omega : v = 0 ∨ v = 1 ∨ v = 2 ∨ v = 3) with rfl | rfl | rfl | rfl
  all_goals
   go_enter Tryd.func11, Tryd.ntmps11
   go_wp2_with fail
   refine hc.mono ?_
   rintro e w1 ⟨rfl, hr1, hg1⟩
   have hp1 := HP.out _ hg1
   have c1 : w1.cell? ⟨0, 1, none⟩ = some (.int .i64 (-1)) := (hp1 0 (by decide)).2
   have c3 : w1.cell? ⟨0, 3, none⟩ = some (.int .i64 (-2)) := (hp1 1 (by decide)).2
   have c5 : w1.cell? ⟨0, 5, none⟩ = some (.int .i64 1) := (hp1 2 (by decide)).2
   have c7 : w1.cell? ⟨0, 7, none⟩ = some (.int .i64 2) := (hp1 3 (by decide)).2
   go_wp2
   go_ret2
   exact ⟨rfl, hr1, hg1⟩
end Go.Proofs.YtoecmledmbafbaaDoor

namespace Go.Proofs.YtoecmledmbafbaaDoor
open Go.RowKit Go.Lib
theorem step_cells {H : Type} {enc : TypeId × Value → H} {P : Program} {w : World} {base : Nat} {sp : Nat → Bool} {held : Bool} {e ts ti : TypeId} {f0 f1 : Field}
  (he : P.underlying e = some (.struct #[f0, f1])) (hstr : P.underlying ts = some .string) (hi : P.underlying ti = some (.int .i64)) (e0 : f0.type = ts) (e1 : f1.type = ti) (o0 : f0.offset = 0) (o1 : f1.offset = 1) (cs : P.cellsOf ts = 1) (ci : P.cellsOf ti = 1)
  {k : Nat} {vs : List Value} {x : List UInt8} {z : Int} {q : List MemPlace} (hl : vs.length = 2) (h : DataW.trod enc P w base sp held k e vs = some (.agg [.lit (.string x), .lit (.int .i64 z)], q)) :
  ∃ s : ByteArray, vs = [.string s, .int .i64 z] ∧ s.data.toList = x := by
 obtain ⟨xs, k, hk, hxy, _, hxl, hfs⟩ := DataW.trod_struct he h
 match xs, hxl, vs, hl with
 | [y0, y1], _, [v0, v1], _ =>
  have g0 := hfs 0 f0 rfl
  have g1 := hfs 1 f1 rfl
  rw [e0, o0, cs] at g0
  rw [e1, o1, ci] at g1
  obtain ⟨x0, q0, hy0, w0⟩ := DataW.trod_string hstr (show DataW.trod _ P w base sp held k ts [v0] = some y0 from g0)
  obtain ⟨x1, q1, hy1, w1⟩ := DataW.trod_int hi (show DataW.trod _ P w base sp held k ti [v1] = some y1 from g1)
  subst hy0 hy1
  injection q0 with q0
  injection q1 with q1
  subst q0 q1
  simp only [List.map_cons, List.map_nil, Prod.mk.injEq, DataW.agg.injEq, List.cons.injEq, DataW.lit.injEq, Lit.string.injEq, Lit.int.injEq, true_and, and_true] at hxy
  obtain ⟨⟨r0, r1⟩, _⟩ := hxy
  subst r0 r1
  exact ⟨x0, rfl, rfl⟩
theorem parts_of {H : Type} {enc : TypeId × Value → H} {P : Program} {w : World} {base : Nat} {sp : Nat → Bool} {held : Bool} {fuel : Nat} {t e : TypeId} {n c : Nat} {cs : List Value} {ls : List (DataW H)} {p : List MemPlace}
  (ht : P.underlying t = some (.array n e)) (hce : P.cellsOf e = c) (hct : P.cellsOf t = n * c)
  (h : DataW.trod enc P w base sp held fuel t cs = some (.agg ls, p)) : cs.length = n * c ∧ ∀ i, i < n → ∃ k d q, ls[i]? = some d ∧ DataW.trod enc P w base sp held k e ((cs.drop (i * c)).take c) = some (d, q) := by
 cases fuel with
 | zero => simp [DataW.trod] at h
 | succ fuel =>
  simp only [DataW.trod, ht, hce, hct] at h
  split at h
  ·rename_i hl
   obtain ⟨xs, hm, hx⟩ := Option.map_eq_some_iff.1 h
   have hxs : xs.map (·.1) = ls := by
    have := congrArg Prod.fst hx
    simpa using this
   refine ⟨hl, fun i hi => ?_⟩
   obtain ⟨b, hb, hf⟩ := mapM_at hm i i (by simp [hi])
   refine ⟨fuel, b.1, b.2, ?_, hf⟩
   rw [← hxs]
   simp [hb]
  ·cases h
theorem stepL_text : (Rows.laid_overspill_steps_codes : DataW Unit) = .agg [.agg [.lit (.string [48, 48]), .lit (.int .i64 (-1))], .agg [.lit (.string [48, 49]), .lit (.int .i64 (-2))], .agg [.lit (.string [49, 48]), .lit (.int .i64 1)], .agg [.lit (.string [49, 49]), .lit (.int .i64 2)]] := by kernel_rfl
theorem two_at_place {cs : List Value} {i : Nat} {a b : Value} (h : (cs.drop i).take 2 = [a, b]) : cs[i]? = some a ∧ cs[i + 1]? = some b := by
 have h0 := congrArg (·[0]?) h
 have h1 := congrArg (·[1]?) h
 simp only [List.getElem?_take, List.getElem?_drop] at h0 h1
 exact ⟨by simpa using h0, by simpa using h1⟩
theorem steps_laid {laid : List (String × DataW Unit)} {W : World} (hL : laidMetH Tryd.prog laid W) (hm : ("overspill/steps.codes", Rows.laid_overspill_steps_codes) ∈ laid ∧ (laid.all fun x => x.2.handleName?.isNone) = true) : HasSteps W := by
 rw [MakeChecks.laidMetH_plain _ _ _ hm.2] at hL
 obtain ⟨ps, hv, _, _⟩ := hL
 obtain ⟨g, t, cs, fuel, p, hg, ht, hc, hd⟩ := laid_one hv hm.1
 obtain rfl := Option.some.inj ((show Tryd.prog.globalNamed "overspill/steps.codes" = some 0 by kernel_rfl).symm.trans hg)
 obtain rfl := Option.some.inj ((show (Tryd.prog.globals[0]?).map (·.type) = some 44 by kernel_rfl).symm.trans ht)
 rw [stepL_text] at hd
 obtain ⟨hl, hp⟩ := parts_of (c := 2) Tryd.underlying44 (by kernel_rfl) (by kernel_rfl) hd
 have hcell := World.var?_cell hg hc
 have key : ∀ i, (hi : i < 4) → ∃ s : ByteArray, (cs.toList.drop (i * 2)).take 2 = [.string s, .int .i64 (stepZ[i]'hi)] ∧ s = stepR[i]'hi := by
  intro i hi
  obtain ⟨k, d, q, hd1, hd2⟩ := hp i hi
  have hlen : ((cs.toList.drop (i * 2)).take 2).length = 2 := by rw [List.length_take, List.length_drop, hl]; omega
  rcases (by omega : i = 0 ∨ i = 1 ∨ i = 2 ∨ i = 3) with rfl | rfl | rfl | rfl
  all_goals
   obtain rfl := Option.some.inj hd1
   obtain ⟨s, h1, h2⟩ := step_cells Tryd.underlying43 Tryd.underlying9 Tryd.underlying3 rfl rfl rfl rfl (by kernel_rfl) (by kernel_rfl) hlen hd2
   exact ⟨s, h1, by apply ByteArray.ext; apply Array.ext'; exact h2⟩
 intro i hi
 obtain ⟨s, h1, rfl⟩ := key i hi
 obtain ⟨h2, h3⟩ := two_at_place h1
 rw [hcell, hcell, Nat.mul_comm 2 i, ← Array.getElem?_toList, ← Array.getElem?_toList]
 exact ⟨h2, h3⟩
theorem lives20_plain : betQ 5 3 = (-2, true) ∧ betQ 5 8 = (0, false) ∧ stk ((showL (⟨#[64]⟩ : ByteArray).data.toList).drop 0) = (-2, 0, 2) ∧ nextQ 30 2 = 31 := by decide +kernel
set_option maxHeartbeats 1000000 in
theorem lives20 (w : World) (hp : HasSteps w) : Calls Tryd.prog 10 #[] w fun e w' => e = .returned (.bool true) ∧ Below w.heap.size w w' := by
 obtain ⟨p1, p2, p3, p4⟩ := lives20_plain
 have b1 := fun w => bet_code 5 3 w
 have b2 := fun w => bet_code 5 8 w
 have n1 := fun w => next_code 30 2 w
 rw [p1] at b1
 rw [p2] at b2
 rw [p4] at n1
 obtain ⟨R, hR⟩ : ∃ R, w.heap.size = R := ⟨_, rfl⟩
 have hlt : 0 ≠ R := by have := hp.lt; omega
 have hr0 : IsRd (w.alloc (rdObj ⟨#[64]⟩ 0)) R ⟨#[64]⟩ 0 := IsRd.fresh hR (by decide)
 have hb0 : Below w.heap.size w (w.alloc (rdObj ⟨#[64]⟩ 0)) := (Below.refl _ w).alloc (Nat.le_refl _) _
 have hs0 := hp.below hb0
 have ht := stake_code _ R ⟨#[64]⟩ 0 hs0 hlt hr0
 unfold STake at ht
 rw [p3] at ht
 have hz : w.heap.size ≤ (w.alloc (rdObj ⟨#[64]⟩ 0)).heap.size := by simp
 clear p1 p2 p3 p4 hlt hr0 hs0 hp
 go_enter Tryd.func10, Tryd.ntmps10
 go_wp2_with fail
 refine (b1 _).mono ?_
 rintro e w1 ⟨rfl, rfl⟩
 go_wp2_with fail
 refine (b2 _).mono ?_
 rintro e w1 ⟨rfl, rfl⟩
 go_wp2_with fail
 refine (rnew_code _ _).mono ?_
 rintro e w1 ⟨rfl, rfl⟩
 rw [hR]
 generalize w.alloc (rdObj ⟨#[64]⟩ 0) = x1 at ht hb0 hz ⊢
 go_wp2_with fail
 refine ht.mono ?_
 rintro e x2 ⟨rfl, hr2, hg2⟩
 obtain ⟨hb5, hz5⟩ := below_ownP hb0 hz hg2 (by omega)
 go_wp2_with fail
 refine (n1 _).mono ?_
 rintro e w1 ⟨rfl, rfl⟩
 go_wp2
 go_ret
 exact ⟨rfl, hb5⟩
end Go.Proofs.YtoecmledmbafbaaDoor

namespace Go.Proofs.YtoecmledmbafbaaDoor
open Go.RowKit Go.Lib
set_option maxHeartbeats 1000000 in
theorem srow_page (s : Int) (w : World) : Calls Tryd.prog 7 #[.int .i64 s] w fun e w' => e = .returned (.string (stepRow s)) ∧ Below w.heap.size w w' := by
 by_cases h0 : s < -2
 ·have F := Lib.hid (stepRow_none (s := s) (by omega))
  have t0 : decide (s < -2) = true := by simpa using h0
  clear h0
  rw [F.out]
  go_enter Tryd.func7, Tryd.ntmps7
  go_wp2
  go_ret
  exact ⟨rfl, Below.refl _ _⟩
 by_cases h1 : 2 < s
 ·have F := Lib.hid (stepRow_none (s := s) (by omega))
  have t0 : decide (s < -2) = false := by simpa using h0
  have t1 : decide (2 < s) = true := by simpa using h1
  clear h0 h1
  rw [F.out]
  go_enter Tryd.func7, Tryd.ntmps7
  go_wp2
  go_ret
  exact ⟨rfl, Below.refl _ _⟩
 rcases (by omega : s = -2 ∨ s = -1 ∨ s = 0 ∨ s = 1 ∨ s = 2) with rfl | rfl | rfl | rfl | rfl
 all_goals
  clear h0 h1
  go_enter Tryd.func7, Tryd.ntmps7
  go_wp2
  go_ret
  first
   | exact ⟨rfl, Below.refl _ _⟩
   | exact ⟨rfl, (Below.refl _ w).alloc (Nat.le_refl _) _⟩
def SRTake (b : List UInt8) (at_ : Nat) (w : World) (e : Ending) (w' : World) : Prop :=
 e = .returned (.tuple #[.int .i64 (stk b).1, .int .i64 ((at_ + (stk b).2.2 : Nat) : Int), .int .i64 (stk b).2.1]) ∧ Below w.heap.size w w'
set_option maxHeartbeats 1000000 in
theorem srtake_page (s : ByteArray) (at_ : Nat) (w : World) (hs : s.size ≤ 140737488355328) (ha : at_ ≤ s.size) (hr : isRow s.data.toList = true) :
  Calls Tryd.prog 12 #[.string s, .int .i64 (at_ : Int)] w (SRTake (s.data.toList.drop at_) at_ w) := by
 have hl : (s.data.toList.drop at_).length = s.size - at_ := by rw [List.length_drop]; rfl
 unfold SRTake
 by_cases h2 : s.size - at_ < 2
 ·have h := stk_few (b := s.data.toList.drop at_) (by omega)
  have t0 : decide ((s.size : Int) - (at_ : Int) < 2) = true := by simp; omega
  rw [h]
  clear h hl h2
  go_enter Tryd.func12, Tryd.ntmps12
  go_wp2
  go_ret3
  exact ⟨rfl, Below.refl _ _⟩
 ·have h := stk_some (b := s.data.toList.drop at_) (by omega)
  have t0 : decide ((s.size : Int) - (at_ : Int) < 2) = false := by simp; omega
  have hex : (s.extract at_ (at_ + 2)).data.toList = (s.data.toList.drop at_).take 2 := by
   rw [bytes_extract s.data.toList at_ (at_ + 2), List.drop_take, show at_ + 2 - at_ = 2 by omega]
  have hn := fun w => number_page (s.extract at_ (at_ + 2)) (by rw [ByteArray.size_extract]; omega) (by rw [hex]; exact isRow_take _ _ (isRow_drop _ _ hr)) w
  rw [hex] at hn
  have hv : num ((s.data.toList.drop at_).take 2) < 4 := num_lt _ (isRow_drop _ _ hr) 2 (by omega)
  rw [h]
  obtain ⟨v, hv'⟩ : ∃ v, num ((s.data.toList.drop at_).take 2) = v := ⟨_, rfl⟩
  rw [hv'] at hn hv ⊢
  clear h hl hv' hex
  rcases (by omega : v = 0 ∨ v = 1 ∨ v = 2 ∨ v = 3) with rfl | rfl | rfl | rfl
  all_goals
   go_enter Tryd.func12, Tryd.ntmps12
   go_wp2_with fail
   refine (hn _).mono ?_
   rintro e w1 ⟨rfl, rfl⟩
   go_wp2
   go_ret3
   exact ⟨rfl, (Below.refl _ w).alloc (Nat.le_refl _) _⟩
end Go.Proofs.YtoecmledmbafbaaDoor
