/- Plain lists alone: numbers of given widths, their rows one behind the other, and that the bytes of these tell the numbers again. No condition. -/
import Derived.Test.YtekpilodicnncaaTells
import Derived.Test.YtekpilodicnncaaDigits
namespace Go.Proofs.Ytekpilodicnncaa
open Go.RowKit

/-- The rows one behind the other. -/
def rowsOf (ps : List (Int × Int)) : List UInt8 := ps.flatMap fun q => rowOf q.1.toNat q.2.toNat
/-- The numbers' cells. -/
def pairCells (ps : List (Int × Int)) : List Value := ps.flatMap fun q => [Value.int .i64 q.1, Value.int .i64 q.2]
/-- Each can be told in its width. -/
def allFit (ps : List (Int × Int)) : Prop := ∀ q ∈ ps, fitsIn q.1 q.2 = true
theorem rowsOf_append (a c : List (Int × Int)) : rowsOf (a ++ c) = rowsOf a ++ rowsOf c := by simp [rowsOf]
theorem rowsOf_snoc (ps : List (Int × Int)) (v n : Int) : rowsOf (ps ++ [(v, n)]) = rowsOf ps ++ rowOf v.toNat n.toNat := by simp [rowsOf]
theorem pairCells_snoc (ps : List (Int × Int)) (v n : Int) : pairCells (ps ++ [(v, n)]) = pairCells ps ++ [.int .i64 v, .int .i64 n] := by simp [pairCells]
theorem pairCells_length (ps : List (Int × Int)) : (pairCells ps).length = ps.length * 2 := by
  induction ps with
  | nil => rfl
  | cons q l ih =>
    have : pairCells (q :: l) = [.int .i64 q.1, .int .i64 q.2] ++ pairCells l := by simp [pairCells]
    rw [this, List.length_append, ih, List.length_cons, List.length_cons, List.length_cons, List.length_nil]; omega
theorem pairCells_get (ps : List (Int × Int)) (j : Nat) (h : j < ps.length) : (pairCells ps)[j * 2]? = some (.int .i64 ps[j].1) ∧ (pairCells ps)[j * 2 + 1]? = some (.int .i64 ps[j].2) := by
  induction ps generalizing j with
  | nil => exact absurd h (Nat.not_lt_zero j)
  | cons q l ih =>
    have e : pairCells (q :: l) = .int .i64 q.1 :: .int .i64 q.2 :: pairCells l := by simp [pairCells]
    rw [e]
    cases j with
    | zero => exact ⟨rfl, rfl⟩
    | succ j =>
      rw [show (j + 1) * 2 = j * 2 + 1 + 1 by omega, show j * 2 + 1 + 1 + 1 = (j * 2 + 1) + 1 + 1 by omega, List.getElem?_cons_succ, List.getElem?_cons_succ, List.getElem?_cons_succ, List.getElem?_cons_succ]
      exact ih j (by simpa using h)
theorem allFit_snoc {ps : List (Int × Int)} {v n : Int} (h : allFit ps) (hf : fitsIn v n = true) : allFit (ps ++ [(v, n)]) := by
  intro q hq
  rcases List.mem_append.1 hq with h1 | h1
  · exact h q h1
  · rw [List.mem_singleton] at h1
    subst h1
    exact hf
theorem rowsOf_row (ps : List (Int × Int)) : isRow (rowsOf ps) = true := by
  induction ps with
  | nil => rfl
  | cons q l ih =>
    have e : rowsOf (q :: l) = rowOf q.1.toNat q.2.toNat ++ rowsOf l := by simp [rowsOf]
    rw [e, isRow_append, rowOf_row, ih]; rfl
theorem rowsOf_most (ps : List (Int × Int)) (h : allFit ps) : (rowsOf ps).length ≤ 32 * ps.length := by
  induction ps with
  | nil => exact Nat.zero_le _
  | cons q l ih =>
    have e : rowsOf (q :: l) = rowOf q.1.toNat q.2.toNat ++ rowsOf l := by simp [rowsOf]
    have h1 := ih fun x hx => h x (List.mem_cons_of_mem _ hx)
    have h2 := (fits_parts (h q List.mem_cons_self)).2.1
    rw [e, List.length_append, rowOf_length, List.length_cons]
    omega
/-- Where number j stands, and what is told there. -/
theorem pair_back (ps : List (Int × Int)) (hf : allFit ps) (j : Nat) (h : j < ps.length) (l : List UInt8) (hl : l = packL (rowsOf ps)) :
    ask l (rowsOf (ps.take j)).length ps[j].2 = (ps[j].1, 0) ∧ askTo l (rowsOf (ps.take j)).length ps[j].2 = (rowsOf (ps.take (j + 1))).length := by
  obtain ⟨n0, n1, v0, v1⟩ := fits_parts (hf ps[j] (List.getElem_mem h))
  have e1 : ps.take (j + 1) = ps.take j ++ [(ps[j].1, ps[j].2)] := List.take_succ_eq_append_getElem h
  have e2 : ps = (ps.take j ++ [(ps[j].1, ps[j].2)]) ++ ps.drop (j + 1) := by rw [← e1, List.take_append_drop]
  have e3 : rowsOf ps = (rowsOf (ps.take j) ++ rowOf ps[j].1.toNat ps[j].2.toNat) ++ rowsOf (ps.drop (j + 1)) := by
    conv => lhs; rw [e2]
    rw [rowsOf_append, rowsOf_snoc]
  have hlen : (rowsOf (ps.take (j + 1))).length = (rowsOf (ps.take j)).length + ps[j].2.toNat := by rw [e1, rowsOf_snoc, List.length_append, rowOf_length]
  have hall : (rowsOf (ps.take j)).length + ps[j].2.toNat ≤ (rowsOf ps).length := by
    rw [e3, List.length_append, List.length_append, rowOf_length]; omega
  have hmost := packL_most (rowsOf ps)
  have ht : tell l (rowsOf (ps.take j)).length ps[j].2.toNat = ps[j].1.toNat := by
    rw [hl, tell_pack _ (rowsOf_row _) _ _ hall, e3, List.append_assoc, List.drop_left' rfl, List.take_left' (by rw [rowOf_length]), num_rowOf, Nat.mod_eq_of_lt]
    obtain ⟨m, hm⟩ := Int.eq_ofNat_of_zero_le v0
    rw [hm] at v1 ⊢
    have := Int.ofNat_lt (n := m) (m := 2 ^ ps[j].2.toNat)
    simp at this
    exact this.1 v1
  have ha : ask l (rowsOf (ps.take j)).length ps[j].2 = (ps[j].1, 0) := by
    rw [ask_ok ⟨n0, n1⟩ (by rw [hl]; omega), ht, Int.toNat_of_nonneg v0]
  refine ⟨ha, ?_⟩
  unfold askTo
  rw [ha, if_pos rfl, hlen]
theorem pair_fill (ps : List (Int × Int)) (l : List UInt8) (hl : l = packL (rowsOf ps)) : fillOf l (rowsOf ps).length = (((gap (rowsOf ps).length : Nat) : Int), 0) ∧ fillTo l (rowsOf ps).length = 8 * l.length := by
  have h := tell_pack_end (rowsOf ps) (rowsOf_row ps)
  subst hl
  unfold fillOf fillTo
  rw [if_pos h, if_pos h, packL_end]
  exact ⟨rfl, rfl⟩
end Go.Proofs.Ytekpilodicnncaa
