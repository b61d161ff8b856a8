/- The chapter's example comes out (package blocks). Condition: what package tcoef's tables hold. -/
import Derived.Test.YtologhgoojkpmaaDoorBput
import Derived.Test.YtologhgoojkpmaaDoorBtake
import Derived.Test.YtologhgoojkpmaaDoorText
import Derived.Test.YtologhgoojkpmaaDoorLaid
namespace Go.Proofs.YtologhgoojkpmaaDoor
open Go.RowKit Go.Lib

theorem live15 : mayB true 128 [(true, 0, 1)] = true ∧ (rowB true 128 [(true, 0, 1)]).length = 13 ∧ btk (padL (rowB true 128 [(true, 0, 1)])) 0 true true = (128, [(true, 0, 1)], 13, 0) := by decide +kernel
theorem evs_lone {w : World} {K : Nat} {x0 : Bool} {x1 x2 : Int} (h : w.heap[K]? = some (.cells #[.bool x0, .int .i64 x1, .int .i64 x2] 50 (0, 0))) : EvsIn w (some ⟨K, 0, none⟩) [(x0, x1, x2)] := by
  have hc : ∀ i x, #[Value.bool x0, Value.int .i64 x1, Value.int .i64 x2][i]? = some x → w.cell? ⟨K, i, none⟩ = some x := fun i x hx => by
    simp [World.cell?, h, hx]
  refine .inr ⟨K, 0, rfl, (Array.getElem?_eq_some_iff.1 h).1, fun i hi => ?_⟩
  match i, hi with
  | 0, _ => exact ⟨hc 0 _ rfl, hc 1 _ rfl, hc 2 _ rfl⟩
/-- A Reader's move leaves a short Writer as it is. -/
theorem IsWr.beside {w w' : World} {B b rb p : Nat} {r : List UInt8} {s : ByteArray} (h : IsWr w B b r) (hr : IsRd w rb s p) (hg : w.grownBy w' (some rb)) (hs : r.length < 2048) : IsWr w' B b r := by
  obtain ⟨h1, h2, u, h3, h4⟩ := h
  have e : r.length / 2048 = 0 := by omega
  rw [e] at h4
  refine ⟨h1, h2, u, ?_, by rw [e]; exact h4⟩
  rw [hg.block b (Array.getElem?_eq_some_iff.1 h3).1 ?_]
  · exact h3
  · intro hk
    injection hk with hk
    subst hk
    rw [hr.1] at h3
    injection h3 with h3
    injection h3 with _ h3
    exact absurd h3 (by decide)
set_option maxRecDepth 100000 in
set_option maxHeartbeats 1000000 in
theorem lives15 (w : World) (hp : HasT w) : Calls Tryd.prog 7 #[] w fun e w' => e = .returned (.bool true) ∧ Below w.heap.size w w' := by
  obtain ⟨l1, l2, l3⟩ := live15
  obtain ⟨R, hR⟩ : ∃ R, w.heap.size = R := ⟨_, rfl⟩
  have hP : ∀ x, Below R w x → HasT x := fun x hx => hp.below (by rw [hR]; exact hx)
  have HP := Lib.hid hP
  have HR := Lib.hid hR
  have hw0 : IsWr (w.alloc newWr) (R + 1) R [] := IsWr.fresh hR (Nat.lt_succ_self R)
  have hb0 : Below R w (w.alloc newWr) := by rw [← hR]; exact (Below.refl _ w).alloc (Nat.le_refl _) _
  have hz0 : (w.alloc newWr).heap.size = R + 1 := by simp; omega
  have hput : ∀ (x : World) (p : Option Addr), IsWr x (R + 1) R [] → R + 1 ≤ x.heap.size → EvsIn x p [(true, 0, 1)] → HasT x → Calls Tryd.prog 10 #[.pointer (some ⟨R, 0, none⟩), .bool true, .int .i64 128, .slice p 1 1] x fun e w' => e = .returned (.int .i64 0) ∧ IsWr w' (R + 1) R ([] ++ rowB true 128 [(true, 0, 1)]) ∧ x.grownBy w' (some R) := fun (x : World) (p : Option Addr) (hw : IsWr x (R + 1) R []) (hz : R + 1 ≤ x.heap.size) (hv : EvsIn x p [(true, 0, 1)]) (hT : HasT x) => bput_ok true 128 p [(true, 0, 1)] 1 (R + 1) R [] x hw (Nat.zero_le _) hz hv hT l1
  simp only [List.nil_append] at hput
  have hrow : isRow (rowB true 128 [(true, 0, 1)]) = true := rowB_row _ _ _
  have hlen := l2
  generalize rowB true 128 [(true, 0, 1)] = r at hput l2 l3 hrow hlen
  have PUT := Lib.hid hput
  have L3 := Lib.hid l3
  have HROW := Lib.hid hrow
  have HLEN := Lib.hid l2
  clear hP hR hput l1 l2 l3 hrow hp hlen
  go_enter Tryd.func7, Tryd.ntmps7
  go_wp2_with fail
  refine (new_code _).mono ?_
  rintro e w1 ⟨rfl, rfl⟩
  rw [HR.out]
  generalize w.alloc newWr = x0 at hw0 hb0 hz0 ⊢
  have hb1 := hb0.alloc (by omega) (.cells #[.bool true, .int .i64 0, .int .i64 1] 50 (0, 0))
  have hw1 := hw0.below ((Below.refl _ x0).alloc (Nat.le_refl _) (.cells #[.bool true, .int .i64 0, .int .i64 1] 50 (0, 0)))
  have hv1 := evs_lone (heap_alloc_new x0 (.cells #[.bool true, .int .i64 0, .int .i64 1] 50 (0, 0)))
  have hz1 : R + 1 ≤ (x0.alloc (.cells #[.bool true, .int .i64 0, .int .i64 1] 50 (0, 0))).heap.size := by simp; omega
  clear hw0 hb0
  go_wp2_with fail
  generalize x0.alloc (.cells #[.bool true, .int .i64 0, .int .i64 1] 50 (0, 0)) = x1 at hb1 hw1 hv1 hz1 ⊢
  rw [hz0] at hv1
  refine (PUT.out _ _ hw1 hz1 hv1 (HP.out _ hb1)).mono ?_
  rintro e x2 ⟨rfl, hw2, hg2⟩
  obtain ⟨hb2, hz2⟩ := below_ownP hb1 (Nat.le_of_succ_le hz1) hg2 (Nat.le_refl R)
  have hz2' : R + 1 ≤ x2.heap.size := Nat.le_trans hz1 hg2.size
  clear hw1 hb1 hv1 hg2
  go_wp2_with fail
  refine (text_code _ _ _ _ hw2 (by rw [HLEN.out]; decide)).mono ?_
  rintro e x3 ⟨rfl, hb3⟩
  have hb4 := hb2.trans (hb3.mono hz2)
  have hw4 := hw2.below hb3
  have hz4 := Nat.le_trans hz2' hb3.size
  clear hb2 hw2 hb3 hz2
  have hps : (⟨(packL r).toArray⟩ : ByteArray).size ≤ 140737488355328 := by rw [size_mk, packL_length, HLEN.out]; decide
  have S : Hid (showL (⟨(packL r).toArray⟩ : ByteArray).data.toList = padL r) := Lib.hid (show_pack _ HROW.out)
  generalize (⟨(packL r).toArray⟩ : ByteArray) = s at hps S ⊢
  go_wp2_with fail
  refine (rnew_code _ _).mono ?_
  rintro e x5 ⟨rfl, rfl⟩
  obtain ⟨Y, hY⟩ : ∃ Y, x3.heap.size = Y := ⟨_, rfl⟩
  have hr5 : IsRd (x3.alloc (rdObj s 0)) Y s 0 := IsRd.fresh hY hps
  have hb5 := hb4.alloc (by omega) (rdObj s 0)
  have hw5 := hw4.below ((Below.refl _ x3).alloc (Nat.le_refl _) (rdObj s 0))
  have hz5 : R + 1 ≤ (x3.alloc (rdObj s 0)).heap.size := by simp; omega
  have HY := Lib.hid hY
  rw [hY]
  have hYR : R + 1 ≤ Y := by omega
  clear hb4 hw4 hY
  generalize x3.alloc (rdObj s 0) = x5 at hr5 hb5 hw5 hz5 ⊢
  have htk := btake_code x5 Y s 0 true true (HP.out _ hb5) hr5
  unfold BTake at htk
  rw [S.out, L3.out] at htk
  go_wp2_with fail
  refine htk.mono ?_
  rintro e x6 ⟨d, L, f, t, m, q, cap, heq, rfl, hm, _, hr6, hg6⟩
  simp only [Prod.mk.injEq] at heq
  obtain ⟨rfl, rfl, rfl, rfl⟩ := heq
  have hm : m = 1 := hm.symm
  subst hm
  have hw6 := hw5.beside hr5 hg6 (by rw [HLEN.out]; decide)
  have hlen := len_code x6 _ _ _ hw6
  rw [HLEN.out] at hlen
  obtain ⟨hb6, _⟩ := below_ownP hb5 (Nat.le_of_succ_le hz5) hg6 (Nat.le_of_succ_le hYR)
  clear hb5 hr5 hw5 hz5 hr6 hg6 hw6 htk
  go_wp2_with fail
  refine hlen.mono ?_
  rintro e x7 ⟨rfl, rfl⟩
  go_wp2
  go_ret
  exact ⟨rfl, by rw [HR.out]; exact hb6⟩
end Go.Proofs.YtologhgoojkpmaaDoor
