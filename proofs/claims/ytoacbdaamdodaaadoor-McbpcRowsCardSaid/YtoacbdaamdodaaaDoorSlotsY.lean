/- How codes over package mcbpc's symbols lie in memory. No condition of its own. -/
import Derived.Test.YtoacbdaamdodaaaDoorLibsY
import Derived.Test.YtoacbdaamdodaaaDoorSlots
import Derived.Test.YtoacbdaamdodaaaDoorRegion
import Derived.OwnWalk
namespace Go.Proofs.YtoacbdaamdodaaaDoor
open Go.ChangeShapes Go.WideShapes Go.ChangeAt Go.RowKit

/-- Codes, one behind the other, from an address on. -/
def CdsY (w : World) (p : Option Addr) (l : List (ByteArray × Sym)) : Prop :=
  l = [] ∨ ∃ b o, p = some ⟨b, o, none⟩ ∧ b < w.heap.size ∧ ∀ i, (h : i < l.length) → w.cell? ⟨b, o + i * 3, none⟩ = some (.string l[i].1) ∧ w.cell? ⟨b, o + i * 3 + 1, none⟩ = some (.int .i64 (sA l[i].2)) ∧ w.cell? ⟨b, o + i * 3 + 2, none⟩ = some (.int .i64 (sB l[i].2))
theorem CdsY.below {w w' : World} {p : Option Addr} {l : List (ByteArray × Sym)} (h : CdsY w p l) (hb : Below w.heap.size w w') : CdsY w' p l := by
  rcases h with h | ⟨b, o, h1, h2, h3⟩
  · exact .inl h
  · refine .inr ⟨b, o, h1, Nat.lt_of_lt_of_le h2 hb.size, fun i hi => ?_⟩
    rw [hb.cell (p := ⟨b, o + i * 3, none⟩) h2, hb.cell (p := ⟨b, o + i * 3 + 1, none⟩) h2, hb.cell (p := ⟨b, o + i * 3 + 2, none⟩) h2]
    exact h3 i hi
theorem CdsY.at {w : World} {p : Option Addr} {l : List (ByteArray × Sym)} (h : CdsY w p l) (h0 : 0 < l.length) :
    ∃ b o, p = some ⟨b, o, none⟩ ∧ b < w.heap.size ∧ ∀ i, (h : i < l.length) → w.cell? ⟨b, o + i * 3, none⟩ = some (.string l[i].1) ∧ w.cell? ⟨b, o + i * 3 + 1, none⟩ = some (.int .i64 (sA l[i].2)) ∧ w.cell? ⟨b, o + i * 3 + 2, none⟩ = some (.int .i64 (sB l[i].2)) := by
  rcases h with rfl | h
  · cases h0
  · exact h
theorem CdsY.take {w : World} {p : Option Addr} {l : List (ByteArray × Sym)} (h : CdsY w p l) (k : Nat) : CdsY w p (l.take k) := by
  rcases h with rfl | ⟨b, o, h1, h2, h3⟩
  · exact .inl (by simp)
  · refine .inr ⟨b, o, h1, h2, fun i hi => ?_⟩
    rw [List.getElem_take]
    exact h3 i (by rw [List.length_take] at hi; omega)
theorem CdsY.drop {w : World} {b o : Nat} {l : List (ByteArray × Sym)} (h : CdsY w (some ⟨b, o, none⟩) l) (k : Nat) : CdsY w (some ⟨b, o + k * 3, none⟩) (l.drop k) := by
  rcases h with rfl | ⟨b', o', h1, h2, h3⟩
  · exact .inl (by simp)
  · cases h1
    refine .inr ⟨b, o + k * 3, rfl, h2, fun i hi => ?_⟩
    have := h3 (k + i) (by rw [List.length_drop] at hi; omega)
    rw [List.getElem_drop, show o + k * 3 + i * 3 = o + (k + i) * 3 by omega]
    exact this

/-! ### Slices of the call's own -/
def codeCellsY (l : List (ByteArray × Sym)) : List Value := l.flatMap encCY
theorem codeCells_snocY (l : List (ByteArray × Sym)) (x : ByteArray × Sym) : codeCellsY (l ++ [x]) = codeCellsY l ++ [.string x.1, .int .i64 (sA x.2), .int .i64 (sB x.2)] := by simp [codeCellsY, encCY]
theorem codeCells_lengthY (l : List (ByteArray × Sym)) : (codeCellsY l).length = l.length * 3 := by
  induction l with
  | nil => rfl
  | cons x l ih =>
    have e : codeCellsY (x :: l) = encCY x ++ codeCellsY l := by simp [codeCellsY]
    rw [e, List.length_append, ih, List.length_cons, encCY, List.length_cons, List.length_cons, List.length_cons, List.length_nil]; omega
theorem codeCells_getY (l : List (ByteArray × Sym)) (j : Nat) (h : j < l.length) : (codeCellsY l)[j * 3]? = some (.string l[j].1) ∧ (codeCellsY l)[j * 3 + 1]? = some (.int .i64 (sA l[j].2)) ∧ (codeCellsY l)[j * 3 + 2]? = some (.int .i64 (sB l[j].2)) := by
  induction l generalizing j with
  | nil => exact absurd h (Nat.not_lt_zero j)
  | cons q l ih =>
    have e : codeCellsY (q :: l) = .string q.1 :: .int .i64 (sA q.2) :: .int .i64 (sB q.2) :: codeCellsY l := by simp [codeCellsY, encCY]
    rw [e]
    cases j with
    | zero => exact ⟨rfl, rfl, rfl⟩
    | succ j =>
      have := ih j (by simpa using h)
      rw [show (j + 1) * 3 = j * 3 + 1 + 1 + 1 by omega, show j * 3 + 1 + 1 + 1 + 1 = (j * 3 + 1) + 1 + 1 + 1 by omega, show j * 3 + 1 + 1 + 1 + 2 = (j * 3 + 2) + 1 + 1 + 1 by omega]
      simp only [List.getElem?_cons_succ]
      exact this
theorem codeCells_oneY (l : List (ByteArray × Sym)) : ∀ u ∈ codeCellsY l, u.oneCell' = true := by
  intro u hu
  obtain ⟨x, _, hx⟩ := List.mem_flatMap.1 hu
  exact enc_oneY x u hx
theorem owns_codesY {w : World} {base e : Nat} {v : Value} {l : List (ByteArray × Sym)} (h : w.ownsRow base e 3 v l.length (codeCellsY l)) :
    ∃ (q : Option Addr) (cap : Nat), v = .slice q l.length cap ∧ CdsY w q l := by
  have h0 := h
  rcases h.2 with ⟨rfl, h1⟩ | ⟨g, cap, cur, rfl, _, hg, _⟩
  · exact ⟨none, 0, by rw [h1], .inl (List.eq_nil_of_length_eq_zero h1)⟩
  · refine ⟨_, cap, rfl, .inr ⟨g, 0, rfl, (Array.getElem?_eq_some_iff.1 hg).1, fun i hi => ⟨?_, ?_, ?_⟩⟩⟩
    · have := World.ownsRow.cells (g := g) h0 rfl (i * 3) _ (codeCells_getY l i hi).1
      rwa [Addr.add_mid] at this
    · have := World.ownsRow.cells (g := g) h0 rfl (i * 3 + 1) _ (codeCells_getY l i hi).2.1
      rwa [Addr.add_mid] at this
    · have := World.ownsRow.cells (g := g) h0 rfl (i * 3 + 2) _ (codeCells_getY l i hi).2.2
      rwa [Addr.add_mid] at this
end Go.Proofs.YtoacbdaamdodaaaDoor
