/- Texts that CelloutBack's proof stands on, part 33 of 45. No condition of its own. -/
import Derived.Test.YtekjgcchnmnplaaGreatDoorCelloutBackMbe
import Derived.Test.YtekjgcchnmnplaaGreatDoorCelloutBackMbf
namespace Go.Proofs.YtekjgcchnmnplaaGreatDoor
open Go.RowKit Go.Lib
set_option maxRecDepth 100000 in
theorem few_code (c : Cel) (p : Nat → Option Addr) (n k : Nat → Nat) (w : World) (hn : ∀ i, i < 6 → n i ≤ maxLen) : Calls Tryz.prog 5 #[.agg (celL c fun i => .slice (p i) (n i) (k i)).toArray] w fun e w' => e = .returned (.bool ((List.range 6).all fun i => decide (n i ≤ 100))) ∧ Below w.heap.size w w' := by
 obtain ⟨A, hA, -, -, -, -, -, -, -, -⟩ := cel_nums c fun i => .slice (p i) (n i) (k i)
 obtain ⟨R, w0, hR, hw0, hz0, hb0, HSZ, hbx⟩ := cel_boxed w hA
 have EV := Lib.hid (fun i (hi : i < 6) => part_cells (o := 12 + i) (hbx w0 (Below.refl _ _)).2 (celL_ev c (fun i => .slice (p i) (n i) (k i)) i hi))
 rw [hA]
 have HW := Lib.hid hw0
 have HR := Lib.hid hR
 have HN := Lib.hid hn
 obtain ⟨z, hz⟩ : ∃ z, ((List.range 6).all fun i => decide (n i ≤ 100)) = z := ⟨_, rfl⟩
 have ZI : Hid (z = true ↔ ∀ i, i < 6 → n i ≤ 100) := Lib.hid (by
  rw [← hz, List.all_eq_true]
  exact ⟨fun h i hi => of_decide_eq_true (h i (List.mem_range.2 hi)), fun h i hi => decide_eq_true (h i (List.mem_range.1 hi))⟩)
 rw [hz]
 clear hA hw0 hR hbx hn hz
 go_enter Tryz.func5, Tryz.ntmps5
 go_wp2
 rw [HW.out, HR.out]
 go_loopw [3] (fun v wr => ∃ i : Nat, i ≤ 6 ∧ v = .int .i64 i ∧ wr = w0 ∧ Hid (∀ j, j < i → n j ≤ 100)) (fun v _ => 6 - (RowKit.intOf v).toNat)
 case atStart => exact ⟨0, by omega, rfl, rfl, Lib.hid fun j h => absurd h (Nat.not_lt_zero j)⟩
 case round =>
  obtain ⟨i, hi6, rfl, rfl, zs⟩ := hrel
  by_cases hlt : i < 6
  ·have t0 : decide ((i : Int) < 6) = true := by simp; omega
   have e0 := EV.out i hlt
   by_cases hn : 100 < n i
   ·have t1 : decide (100 < n i) = true := decide_eq_true hn
    have t2 : decide (100 < (n i : Int)) = true := decide_eq_true (by omega)
    have Z : Hid (z = false) := Lib.hid (Bool.eq_false_iff.2 fun h => by have := ZI.out.1 h i hlt; omega)
    clear hn
    go_wp2
    go_ret
    exact ⟨ret_bool Z.out.symm, by rw [HR.out]; exact hb0⟩
   ·have t1 : decide (100 < n i) = false := decide_eq_false hn
    have t2 : decide (100 < (n i : Int)) = false := decide_eq_false (by omega)
    have ZN := Lib.hid (show n i ≤ 100 by omega)
    clear hn
    go_wp2
    go_roundw
    case rel => exact ⟨i + 1, by omega, by go_num, by trivial, Lib.hid fun j hj => (Nat.lt_succ_iff_lt_or_eq.1 hj).elim (zs.out j) fun h => h ▸ ZN.out⟩
    case measure => simp [RowKit.intOf]; omega
  ·obtain rfl : i = 6 := by omega
   have Z : Hid (z = true) := Lib.hid (ZI.out.2 zs.out)
   go_wp2
   go_ret
   exact ⟨ret_bool Z.out.symm, by rw [HR.out]; exact hb0⟩
def exC : Cel := { celZ with stuff := 1, skip := true }
def exD : Cel := { celZ with skip := true }
theorem ex_may : celMay true exC = true ∧ celMay false exD = false := by decide +kernel
theorem ex_row : celRow true 0 0 exC = [48, 48, 48, 48, 48, 48, 48, 48, 48, 49, 49] := by decide +kernel
theorem ex_pack : (⟨(packL [48, 48, 48, 48, 48, 48, 48, 48, 48, 49, 49]).toArray⟩ : ByteArray) = ⟨#[0, 96]⟩ := by decide +kernel
theorem in_none (w : World) (c : Cel) (h : ∀ i, i < 6 → c.ev i = []) : CelIn w c (fun _ => none) (fun _ => 0) := fun i hi => ⟨by rw [h i hi]; rfl, Nat.zero_le _, by rw [h i hi]; exact .inl rfl⟩
set_option maxRecDepth 100000 in
set_option maxHeartbeats 2000000 in
theorem lives22 (w : World) (ht : TabsLo w.heap.size w) : Calls Tryz.prog 6 #[] w fun e w' => e = .returned (.bool true) ∧ Below w.heap.size w w' := by
 obtain ⟨R, hR⟩ : ∃ R, w.heap.size = R := ⟨_, rfl⟩
 rw [hR] at ht
 have hw0 : IsWr (w.alloc newWr) (R + 1) R [] := IsWr.fresh hR (Nat.lt_succ_self _)
 have hb0 : Below R w (w.alloc newWr) := by rw [← hR]; exact (Below.refl _ w).alloc (Nat.le_refl _) _
 have hz0 : (w.alloc newWr).heap.size = R + 1 := by simp; omega
 have HTH := Lib.hid (fun z (hz : Below R w z) => (by have h := ht.below hz; exact TabsLo.here h.pats h.mvd h.steps h.tcoef : TabsLo z.heap.size z))
 have hput : ∀ x, IsWr x (R + 1) R [] → R + 1 ≤ x.heap.size → Below R w x → Calls Tryz.prog 10 #[.pointer (some ⟨R, 0, none⟩), .bool true, .agg #[.int .i64 0, .int .i64 0], .agg (celL exC fun i => .slice none 0 0).toArray] x fun e w' => e = .returned (.int .i64 0) ∧ IsWr w' (R + 1) R [48, 48, 48, 48, 48, 48, 48, 48, 48, 49, 49] ∧ x.grownBy w' (some R) := fun x h1 h2 h3 => by
  have h := cput_ok true 0 0 exC (fun _ => none) (fun _ => 0) (fun _ => 0) (R + 1) R [] x h1 (by simp) h2 (fun z hz => ⟨HTH.out z (h3.trans (grown_low hz (Nat.le_refl _) (by omega))), in_none z exC fun _ _ => rfl⟩) ex_may.1
  rw [ex_row, List.nil_append] at h
  exact h
 have hri : ∀ x, Below R w x → Calls Tryz.prog 11 #[.bool false, .agg (celL exD fun i => .slice none 0 0).toArray] x fun e w' => e = .returned (.bool false) ∧ Below x.heap.size x w' := fun x h3 => by
  have h := cright_code false exD (fun _ => none) (fun _ => 0) (fun _ => 0) x (in_none x exD fun _ _ => rfl) (HTH.out x h3).tcoef (HTH.out x h3).steps
  rw [ex_may.2] at h
  exact h
 have PUT := Lib.hid hput
 have RI := Lib.hid hri
 have HR := Lib.hid hR
 have PK := Lib.hid ex_pack
 clear hput hri hR
 go_enter Tryz.func6, Tryz.ntmps6
 go_wp2_with fail
 refine (new_code _).mono ?_
 rintro e w1 ⟨rfl, rfl⟩
 rw [HR.out]
 generalize w.alloc newWr = x0 at hw0 hb0 hz0 ⊢
 go_wp2_with fail
 refine (PUT.out _ hw0 (by omega) hb0).mono ?_
 rintro e w2 ⟨rfl, hw2, hg2⟩
 have hb2 := hb0.trans (grown_low hg2 (Nat.le_refl _) (by omega))
 have hz2 := hg2.size
 clear hw0 hb0 hg2
 go_wp2_with fail
 refine (len_code _ _ _ _ hw2).mono ?_
 rintro e w3 ⟨rfl, rfl⟩
 go_wp2_with fail
 refine (text_code _ _ _ _ hw2 (by decide)).mono ?_
 rintro e w4 ⟨rfl, hb3⟩
 rw [PK.out]
 have hb4 := hb2.trans (hb3.mono (by omega))
 have hz4 := hb3.size
 clear hw2 hb3
 go_wp2_with fail
 refine (RI.out _ hb4).mono ?_
 rintro e w5 ⟨rfl, hb5⟩
 have hb6 := hb4.trans (hb5.mono (by omega))
 go_wp2
 go_ret
 exact ⟨rfl, by rw [HR.out]; exact hb6⟩
end Go.Proofs.YtekjgcchnmnplaaGreatDoor
