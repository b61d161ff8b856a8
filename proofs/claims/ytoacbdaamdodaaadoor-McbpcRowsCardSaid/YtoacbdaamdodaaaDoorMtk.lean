/- What stands at the head of some bits by package mcbpc's tables, in plain words; and that a table of those codes alone that begin with the first bit tells the same. No condition. -/
import Derived.Test.YtoacbdaamdodaaaDoorMcodes
import Derived.Test.YtoacbdaamdodaaaDoorMakesY
namespace Go.Proofs.YtoacbdaamdodaaaDoor

/-- The codes of one kind of sheets, in the order of their kinds and chromas. -/
def allC (inter : Bool) : List (ByteArray × Sym) := ((List.range 24).map (cellC inter)).filter fun x => !(rowCY x).isEmpty
/-- What stands at the head of some bits: kind, chroma, what is wrong, how many digits. -/
def mtk (inter : Bool) (b : List UInt8) : Int × Int × Int × Nat :=
  if (tk ((allC inter).map rowCY) b 25 1).1 = 0 then
    match (allC inter).find? (fun x => rowCY x == b.take (tk ((allC inter).map rowCY) b 25 1).2) with
    | some x => if sA x.2 = 2 then (0, 0, 6, 0) else (sA x.2, sB x.2, 0, (tk ((allC inter).map rowCY) b 25 1).2)
    | none => (0, 0, 0, 0)
  else (0, 0, (tk ((allC inter).map rowCY) b 25 1).1, 0)
theorem all_free (inter : Bool) : free ((allC inter).map rowCY) := by
  cases inter <;> (unfold free; decide +kernel)
theorem all_ok (inter : Bool) : ∀ x ∈ allC inter, okRow (rowCY x) = true := by
  cases inter <;> decide +kernel
theorem upto_all (inter : Bool) (c : UInt8) : upto inter [c] 24 = (allC inter).filter fun x => [c].isPrefixOf (rowCY x) := by
  unfold upto allC
  rw [List.filter_filter]
  apply List.filter_congr
  intro x _
  cases h : [c].isPrefixOf (rowCY x) with
  | false => rfl
  | true =>
    cases hr : rowCY x with
    | nil => rw [hr] at h; cases h
    | cons a l => rfl
theorem upto_mk (inter : Bool) {c : UInt8} (hc : c = 48 ∨ c = 49) : mkPY (upto inter [c] 24) := by
  have hf : free ((upto inter [c] 24).map rowCY) := by
    rw [upto_all]
    exact (all_free inter).sublist ((List.filter_sublist).map rowCY)
  have ho : ∀ x ∈ upto inter [c] 24, okRow (rowCY x) = true := fun x hx => by
    rw [upto_all] at hx
    exact all_ok inter x (List.mem_filter.1 hx).1
  refine ⟨?_, Nat.le_trans (upto_len inter [c] 24) (by omega), ho, hf, ?_⟩
  · rcases hc with rfl | rfl <;> cases inter <;> decide +kernel
  · rcases hc with rfl | rfl <;> cases inter <;> decide +kernel
/-- By the first bit alone. -/
theorem tk_first (rows : List (List UInt8)) (b : List UInt8) (h : 1 ≤ b.length) : ∀ k n, 1 ≤ n → tk rows b k n = tk (rows.filter fun r => (b.take 1).isPrefixOf r) b k n
  | 0, _, _ => rfl
  | k + 1, n, hn => by
    have hp : (b.take 1).isPrefixOf (b.take n) = true := by
      rw [List.isPrefixOf_iff_prefix, show b.take 1 = (b.take n).take 1 by rw [List.take_take, Nat.min_eq_left hn]]
      exact List.take_prefix _ _
    have e1 : b.take n ∈ rows ↔ b.take n ∈ rows.filter fun r => (b.take 1).isPrefixOf r := by
      rw [List.mem_filter]
      exact ⟨fun h => ⟨h, hp⟩, fun h => h.1⟩
    have e2 : (rows.any fun r => (b.take n).isPrefixOf r) = (rows.filter fun r => (b.take 1).isPrefixOf r).any fun r => (b.take n).isPrefixOf r := by
      rw [Bool.eq_iff_iff, List.any_eq_true, List.any_eq_true]
      constructor
      · rintro ⟨x, hx, h⟩
        exact ⟨x, List.mem_filter.2 ⟨hx, pre_trans hp h⟩, h⟩
      · rintro ⟨x, hx, h⟩
        exact ⟨x, (List.mem_filter.1 hx).1, h⟩
    unfold tk
    simp only [e1, ← e2, tk_first rows b h k (n + 1) (by omega)]
theorem tk_upto (inter : Bool) {b : List UInt8} {c : UInt8} (h : b.take 1 = [c]) {ds : List (ByteArray × Sym)} (hp : ds.Perm (upto inter [c] 24)) : tk (ds.map rowCY) b 25 1 = tk ((allC inter).map rowCY) b 25 1 := by
  have hl : 1 ≤ b.length := by
    cases b with
    | nil => cases h
    | cons a l => simp
  rw [tk_perm (hp.map rowCY), tk_first ((allC inter).map rowCY) b hl 25 1 (Nat.le_refl _), upto_all, List.filter_map, h]
  rfl
/-- A row is one code's alone. -/
theorem all_one (inter : Bool) {x y : ByteArray × Sym} (hx : x ∈ allC inter) (hy : y ∈ allC inter) (h : rowCY x = rowCY y) : x = y := by
  obtain ⟨i, hi, rfl⟩ := List.getElem_of_mem hx
  obtain ⟨j, hj, rfl⟩ := List.getElem_of_mem hy
  by_cases hij : i = j
  · subst hij; rfl
  · exfalso
    have := free_get.1 (all_free inter) i j (by simpa using hi) (by simpa using hj) hij
    rw [List.getElem_map, List.getElem_map, h, pre_refl] at this
    cases this
theorem all_find (inter : Bool) {x : ByteArray × Sym} (hx : x ∈ allC inter) {q : List UInt8} (hq : rowCY x = q) : (allC inter).find? (fun y => rowCY y == q) = some x := by
  cases h : (allC inter).find? (fun y => rowCY y == q) with
  | none =>
    have := List.find?_eq_none.1 h x hx
    rw [hq] at this
    simp at this
  | some y =>
    have h1 := List.find?_some h
    have h2 := List.mem_of_find?_eq_some h
    rw [all_one inter h2 hx ((beq_iff_eq.1 h1).trans hq.symm)]
theorem mtk_yes (inter : Bool) {b : List UInt8} {n : Nat} {x : ByteArray × Sym} (ht : tk ((allC inter).map rowCY) b 25 1 = (0, n)) (hx : x ∈ allC inter) (hq : rowCY x = b.take n) :
    mtk inter b = if sA x.2 = 2 then (0, 0, 6, 0) else (sA x.2, sB x.2, 0, n) := by
  unfold mtk
  rw [ht, if_pos rfl, all_find inter hx hq]
theorem mtk_not (inter : Bool) {b : List UInt8} {n : Nat} {f : Int} (ht : tk ((allC inter).map rowCY) b 25 1 = (f, n)) (hf : f ≠ 0) : mtk inter b = (0, 0, f, 0) := by
  unfold mtk
  rw [ht, if_neg hf]
end Go.Proofs.YtoacbdaamdodaaaDoor
