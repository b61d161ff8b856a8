/- The document's own answers of layer 6 (mcbpc): the row of a kind and a chroma, and what is taken of a row of bits. Conditions: bits of at most 2^20 digits. -/
import Derived.Test.YtoacbdaamdodaaaDoorMtk
import Derived.Test.YtoacbdaamdodaaaDoorRef5
import Derived.WalkMore
import Derived.IntWalk
namespace Go.Proofs.YtoacbdaamdodaaaDoor
open Go.RowKit Go.Lib

def refL (inter : Bool) : List ByteArray :=
  if inter then [⟨#[49]⟩, ⟨#[48, 48, 49, 49]⟩, ⟨#[48, 48, 49, 48]⟩, ⟨#[48, 48, 48, 49, 48, 49]⟩, ⟨#[48, 49, 49]⟩, ⟨#[48, 48, 48, 48, 49, 49, 49]⟩, ⟨#[48, 48, 48, 48, 49, 49, 48]⟩, ⟨#[48, 48, 48, 48, 48, 48, 49, 48, 49]⟩, ⟨#[48, 49, 48]⟩, ⟨#[48, 48, 48, 48, 49, 48, 49]⟩, ⟨#[48, 48, 48, 48, 49, 48, 48]⟩, ⟨#[48, 48, 48, 48, 48, 49, 48, 49]⟩, ⟨#[48, 48, 48, 49, 49]⟩, ⟨#[48, 48, 48, 48, 48, 49, 48, 48]⟩, ⟨#[48, 48, 48, 48, 48, 48, 49, 49]⟩, ⟨#[48, 48, 48, 48, 48, 49, 49]⟩, ⟨#[48, 48, 48, 49, 48, 48]⟩, ⟨#[48, 48, 48, 48, 48, 48, 49, 48, 48]⟩, ⟨#[48, 48, 48, 48, 48, 48, 48, 49, 49]⟩, ⟨#[48, 48, 48, 48, 48, 48, 48, 49, 48]⟩, ⟨#[48, 48, 48, 48, 48, 48, 48, 48, 49]⟩]
  else [⟨#[]⟩, ⟨#[]⟩, ⟨#[]⟩, ⟨#[]⟩, ⟨#[]⟩, ⟨#[]⟩, ⟨#[]⟩, ⟨#[]⟩, ⟨#[]⟩, ⟨#[]⟩, ⟨#[]⟩, ⟨#[]⟩, ⟨#[49]⟩, ⟨#[48, 48, 49]⟩, ⟨#[48, 49, 48]⟩, ⟨#[48, 49, 49]⟩, ⟨#[48, 48, 48, 49]⟩, ⟨#[48, 48, 48, 48, 48, 49]⟩, ⟨#[48, 48, 48, 48, 49, 48]⟩, ⟨#[48, 48, 48, 48, 49, 49]⟩, ⟨#[48, 48, 48, 48, 48, 48, 48, 48, 49]⟩]
theorem refL_len (inter : Bool) : (refL inter).length = 21 := by cases inter <;> rfl
theorem refL_cell (inter : Bool) : ∀ i, (h : i < 21) → (refL inter)[i]'(by rw [refL_len]; exact h) = (cellC inter i).1 := by
  cases inter <;> decide +kernel
/-- Those that are there. -/
def someL (inter : Bool) (i : Nat) : List ByteArray := ((refL inter).take i).filter fun x => !x.data.toList.isEmpty
theorem someL_all (inter : Bool) : (someL inter 21).map (fun x => x.data.toList) = (allC inter).map rowCY := by
  cases inter <;> decide +kernel
theorem someL_fin (inter : Bool) : ∀ j : Fin (someL inter 21).length, j.val + (if inter then 0 else 12) < 21 ∧ (someL inter 21)[j.val] = (cellC inter (j.val + (if inter then 0 else 12))).1 ∧ (!(rowCY (cellC inter (j.val + (if inter then 0 else 12)))).isEmpty) = true := by
  cases inter <;> decide +kernel
theorem cellC_all {inter : Bool} {i : Nat} (h : i < 24) (hr : (!(rowCY (cellC inter i)).isEmpty) = true) : cellC inter i ∈ allC inter :=
  List.mem_filter.2 ⟨List.mem_map_of_mem (List.mem_range.2 h), hr⟩
theorem someL_get (inter : Bool) (j : Nat) (h : j < (someL inter 21).length) : j + (if inter then 0 else 12) < 21 ∧ (someL inter 21)[j] = (cellC inter (j + (if inter then 0 else 12))).1 ∧ cellC inter (j + (if inter then 0 else 12)) ∈ allC inter := by
  obtain ⟨h1, h2, h3⟩ := someL_fin inter ⟨j, h⟩
  exact ⟨h1, h2, cellC_all (Nat.lt_trans h1 (by decide)) h3⟩
theorem someL_yes {inter : Bool} {i : Nat} (h : i < 21) (hy : (cellC inter i).1.data.toList.isEmpty = false) : someL inter (i + 1) = someL inter i ++ [(cellC inter i).1] := by
  unfold someL
  rw [List.take_succ_eq_append_getElem (by rw [refL_len]; exact h), List.filter_append, refL_cell inter i h]
  simp only [List.filter_cons, List.filter_nil, hy, Bool.not_false, if_true]
theorem someL_no {inter : Bool} {i : Nat} (h : i < 21) (hy : (cellC inter i).1.data.toList.isEmpty = true) : someL inter (i + 1) = someL inter i := by
  unfold someL
  rw [List.take_succ_eq_append_getElem (by rw [refL_len]; exact h), List.filter_append, refL_cell inter i h]
  simp only [List.filter_cons, List.filter_nil, hy, Bool.not_true, Bool.false_eq_true, if_false, List.append_nil]
theorem someL_len (inter : Bool) (i : Nat) : (someL inter i).length ≤ i := by
  unfold someL
  refine Nat.le_trans (List.length_filter_le _ _) ?_
  rw [List.length_take]
  omega
theorem strs_block {w : World} {b : Nat} {l : List ByteArray} {T : TypeId} (h : w.heap[b]? = some (.cells (l.map Value.string).toArray T (0, 0))) : Strs w (some ⟨b, 0, none⟩) l := by
  refine .inr ⟨b, 0, rfl, (Array.getElem?_eq_some_iff.1 h).1, fun i hi => ?_⟩
  rw [Nat.zero_add]
  exact part_cells h (by simp [hi])
set_option maxHeartbeats 1000000 in
theorem rrows_page (inter : Bool) (w : World) : Calls Tryd.prog 18 #[.bool inter] w fun e w' => e = .returned (.slice (some ⟨w.heap.size, 0, none⟩) 21 21) ∧ Strs w' (some ⟨w.heap.size, 0, none⟩) (refL inter) ∧ Below w.heap.size w w' := by
  cases inter with
  | true =>
    go_enter Tryd.func18, Tryd.ntmps18
    go_wp2
    go_ret
    exact ⟨rfl, strs_block (T := 9) (l := refL true) (heap_alloc_new w _), (Below.refl _ w).alloc (Nat.le_refl _) _⟩
  | false =>
    go_enter Tryd.func18, Tryd.ntmps18
    go_wp2
    go_ret
    exact ⟨rfl, strs_block (T := 9) (l := refL false) (heap_alloc_new w _), (Below.refl _ w).alloc (Nat.le_refl _) _⟩
theorem rowAt_not {inter : Bool} {k c : Int} (h : k < 0 ∨ 5 < k ∨ c < 0 ∨ 3 < c ∨ (k = 5 ∧ 0 < c)) : rowAt inter k c = ⟨#[]⟩ := by
  by_cases hc : c < 0 ∨ 4 ≤ c
  · exact rowAt_out hc
  · unfold rowAt
    rw [if_pos (by omega)]
    rcases (by omega : c = 0 ∨ c = 1 ∨ c = 2 ∨ c = 3) with rfl | rfl | rfl | rfl
    all_goals
      rcases (by omega : (k < 0 ∨ 5 < k) ∨ k = 5) with hk | rfl
      · have h0 : ∀ i : Int, 0 ≤ i → i ≤ 5 → ¬ k = i := fun i h1 h2 e => by omega
        cases inter <;> simp [rowsL, interL, intraL, h0 0, h0 1, h0 2, h0 3, h0 4, h0 5]
      · first
          | (exfalso; omega)
          | (cases inter <;> rfl)
theorem rowAt_cell (inter : Bool) (k c : Nat) (hk : k < 6) (hc : c < 4) : rowAt inter (k : Int) (c : Int) = (cellC inter (4 * k + c)).1 := (cellC_at inter k c hk hc).1.symm
set_option maxRecDepth 100000 in
set_option maxHeartbeats 2000000 in
theorem rrow_page (inter : Bool) (k c : Int) (w : World) : Calls Tryd.prog 7 #[.bool inter, .int .i64 k, .int .i64 c] w fun e w' => e = .returned (.string (rowAt inter k c)) ∧ Below w.heap.size w w' := by
  by_cases g0 : k < 0
  · have F := Lib.hid (rowAt_not (inter := inter) (k := k) (c := c) (by have h := g0; exact .inl h))
    have t0 : decide (k < 0) = true := by simpa using g0
    clear g0
    rw [F.out]
    go_enter Tryd.func7, Tryd.ntmps7
    go_wp2
    go_ret
    exact ⟨rfl, Below.refl _ _⟩
  by_cases g1 : 5 < k
  · have F := Lib.hid (rowAt_not (inter := inter) (k := k) (c := c) (by have h := g1; exact .inr (.inl h)))
    have t0 : decide (k < 0) = false := by simpa using g0
    have t1 : decide (5 < k) = true := by simpa using g1
    clear g0 g1
    rw [F.out]
    go_enter Tryd.func7, Tryd.ntmps7
    go_wp2
    go_ret
    exact ⟨rfl, Below.refl _ _⟩
  by_cases g2 : c < 0
  · have F := Lib.hid (rowAt_not (inter := inter) (k := k) (c := c) (by have h := g2; exact .inr (.inr (.inl h))))
    have t0 : decide (k < 0) = false := by simpa using g0
    have t1 : decide (5 < k) = false := by simpa using g1
    have t2 : decide (c < 0) = true := by simpa using g2
    clear g0 g1 g2
    rw [F.out]
    go_enter Tryd.func7, Tryd.ntmps7
    go_wp2
    go_ret
    exact ⟨rfl, Below.refl _ _⟩
  by_cases g3 : 3 < c
  · have F := Lib.hid (rowAt_not (inter := inter) (k := k) (c := c) (by have h := g3; exact .inr (.inr (.inr (.inl h)))))
    have t0 : decide (k < 0) = false := by simpa using g0
    have t1 : decide (5 < k) = false := by simpa using g1
    have t2 : decide (c < 0) = false := by simpa using g2
    have t3 : decide (3 < c) = true := by simpa using g3
    clear g0 g1 g2 g3
    rw [F.out]
    go_enter Tryd.func7, Tryd.ntmps7
    go_wp2
    go_ret
    exact ⟨rfl, Below.refl _ _⟩
  have t0 : decide (k < 0) = false := by simpa using g0
  have t1 : decide (5 < k) = false := by simpa using g1
  have t2 : decide (c < 0) = false := by simpa using g2
  have t3 : decide (3 < c) = false := by simpa using g3
  by_cases g4 : k = 5 ∧ 0 < c
  · have F := Lib.hid (rowAt_not (inter := inter) (k := k) (c := c) (.inr (.inr (.inr (.inr g4)))))
    have t4 : (k == 5) = true := by rw [beq_iff_eq]; exact g4.1
    have t5 : decide (0 < c) = true := by simpa using g4.2
    clear g0 g1 g2 g3 g4
    rw [F.out]
    go_enter Tryd.func7, Tryd.ntmps7
    go_wp2
    go_ret
    exact ⟨rfl, Below.refl _ _⟩
  obtain ⟨a, rfl⟩ : ∃ a : Nat, k = a := ⟨k.toNat, by omega⟩
  obtain ⟨d, rfl⟩ : ∃ d : Nat, c = d := ⟨c.toNat, by omega⟩
  have hi : 4 * a + d < 21 := by omega
  have hrow := (rowAt_cell inter a d (by omega) (by omega)).trans (refL_cell inter (4 * a + d) hi).symm
  have t45 : ((a : Int) == 5) = false ∨ (((a : Int) == 5) = true ∧ decide (0 < d) = false) := by
    by_cases e : (a : Int) = 5
    · exact .inr ⟨by rw [beq_iff_eq]; exact e, by simp; omega⟩
    · exact .inl (by rw [beq_eq_false_iff_ne]; exact e)
  have H := Lib.hid hrow
  have h0 : 4 * a ≤ 20 := by omega
  clear g0 g1 g2 g3 g4 hrow
  rcases t45 with t4 | ⟨t4, t5⟩
  all_goals
    go_enter Tryd.func7, Tryd.ntmps7
    go_wp2_with fail
    refine (rrows_page inter _).mono ?_
    rintro e w1 ⟨rfl, hst, hb⟩
    obtain ⟨b, o, e, _, hc⟩ := hst.at (by rw [refL_len]; omega)
    cases e
    have c0 := hc (4 * a + d) (by rw [refL_len]; exact hi)
    rw [Nat.zero_add] at c0
    rw [← H.out] at c0
    clear hc
    go_wp2
    go_ret
    exact ⟨rfl, hb⟩
end Go.Proofs.YtoacbdaamdodaaaDoor
