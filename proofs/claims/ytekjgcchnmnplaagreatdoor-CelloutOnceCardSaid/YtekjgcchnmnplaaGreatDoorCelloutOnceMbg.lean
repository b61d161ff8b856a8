/- Texts that CelloutOnce's proof stands on, part 33 of 45. No condition of its own. -/
import Derived.Test.YtekjgcchnmnplaaGreatDoorCelloutOnceMbe
import Derived.Test.YtekjgcchnmnplaaGreatDoorCelloutOnceMbf
namespace Go.Proofs.YtekjgcchnmnplaaGreatDoor
open Go.RowKit Go.Lib
def exC : Cel := { celZ with stuff := 1, skip := true }
def exD : Cel := { celZ with skip := true }
theorem ex_may : celMay true exC = true ∧ celMay false exD = false := by decide +kernel
theorem ex_row : celRow true 0 0 exC = [48, 48, 48, 48, 48, 48, 48, 48, 48, 49, 49] := by decide +kernel
theorem ex_pack : (⟨(packL [48, 48, 48, 48, 48, 48, 48, 48, 48, 49, 49]).toArray⟩ : ByteArray) = ⟨#[0, 96]⟩ := by decide +kernel
theorem in_none (w : World) (c : Cel) (h : ∀ i, i < 6 → c.ev i = []) : CelIn w c (fun _ => none) (fun _ => 0) := fun i hi => ⟨by rw [h i hi]; rfl, Nat.zero_le _, by rw [h i hi]; exact .inl rfl⟩
set_option maxRecDepth 100000 in
set_option maxHeartbeats 2000000 in
theorem lives22 (w : World) (ht : TabsLo w.heap.size w) : Calls Tryz.prog 6 #[] w fun e w' => e = .returned (.bool true) ∧ Below w.heap.size w w' := by
 obtain ⟨R, hR⟩ : ∃ R, w.heap.size = R := ⟨_, rfl⟩
 rw [hR] at ht
 have hw0 : IsWr (w.alloc newWr) (R + 1) R [] := IsWr.fresh hR (Nat.lt_succ_self _)
 have hb0 : Below R w (w.alloc newWr) := by rw [← hR]; exact (Below.refl _ w).alloc (Nat.le_refl _) _
 have hz0 : (w.alloc newWr).heap.size = R + 1 := by simp; omega
 have HTH := Lib.hid (fun z (hz : Below R w z) => (by have h := ht.below hz; exact TabsLo.here h.pats h.mvd h.steps h.tcoef : TabsLo z.heap.size z))
 have hput : ∀ x, IsWr x (R + 1) R [] → R + 1 ≤ x.heap.size → Below R w x → Calls Tryz.prog 10 #[.pointer (some ⟨R, 0, none⟩), .bool true, .agg #[.int .i64 0, .int .i64 0], .agg (celL exC fun i => .slice none 0 0).toArray] x fun e w' => e = .returned (.int .i64 0) ∧ IsWr w' (R + 1) R [48, 48, 48, 48, 48, 48, 48, 48, 48, 49, 49] ∧ x.grownBy w' (some R) := fun x h1 h2 h3 => by
  have h := cput_ok true 0 0 exC (fun _ => none) (fun _ => 0) (fun _ => 0) (R + 1) R [] x h1 (by simp) h2 (fun z hz => ⟨HTH.out z (h3.trans (grown_low hz (Nat.le_refl _) (by omega))), in_none z exC fun _ _ => rfl⟩) ex_may.1
  rw [ex_row, List.nil_append] at h
  exact h
 have hri : ∀ x, Below R w x → Calls Tryz.prog 11 #[.bool false, .agg (celL exD fun i => .slice none 0 0).toArray] x fun e w' => e = .returned (.bool false) ∧ Below x.heap.size x w' := fun x h3 => by
  have h := cright_code false exD (fun _ => none) (fun _ => 0) (fun _ => 0) x (in_none x exD fun _ _ => rfl) (HTH.out x h3).tcoef (HTH.out x h3).steps
  rw [ex_may.2] at h
  exact h
 have PUT := Lib.hid hput
 have RI := Lib.hid hri
 have HR := Lib.hid hR
 have PK := Lib.hid ex_pack
 clear hput hri hR
 go_enter Tryz.func6, Tryz.ntmps6
 go_wp2_with fail
 refine (new_code _).mono ?_
 rintro e w1 ⟨rfl, rfl⟩
 rw [HR.out]
 generalize w.alloc newWr = x0 at hw0 hb0 hz0 ⊢
 go_wp2_with fail
 refine (PUT.out _ hw0 (by omega) hb0).mono ?_
 rintro e w2 ⟨rfl, hw2, hg2⟩
 have hb2 := hb0.trans (grown_low hg2 (Nat.le_refl _) (by omega))
 have hz2 := hg2.size
 clear hw0 hb0 hg2
 go_wp2_with fail
 refine (len_code _ _ _ _ hw2).mono ?_
 rintro e w3 ⟨rfl, rfl⟩
 go_wp2_with fail
 refine (text_code _ _ _ _ hw2 (by decide)).mono ?_
 rintro e w4 ⟨rfl, hb3⟩
 rw [PK.out]
 have hb4 := hb2.trans (hb3.mono (by omega))
 have hz4 := hb3.size
 clear hw2 hb3
 go_wp2_with fail
 refine (RI.out _ hb4).mono ?_
 rintro e w5 ⟨rfl, hb5⟩
 have hb6 := hb4.trans (hb5.mono (by omega))
 go_wp2
 go_ret
 exact ⟨rfl, by rw [HR.out]; exact hb6⟩
end Go.Proofs.YtekjgcchnmnplaaGreatDoor
