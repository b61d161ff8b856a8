/- What stands at the head of some bits by package cbpy's tables, in plain words; and that a table of those codes alone that begin with the first bit tells the same. No condition. -/
import Derived.Test.YtfechonaghjcnaaDoorPcodes
import Derived.Test.YtfechonaghjcnaaDoorMakes
namespace Go.Proofs.YtfechonaghjcnaaDoor

/-- The codes of one kind of cells. -/
def allP (intra : Bool) : List (ByteArray × Int) := (List.range 16).map (cellP intra)
/-- What stands at the head of some bits: the pattern, what is wrong, how many digits. -/
def ptk (intra : Bool) (b : List UInt8) : Int × Int × Nat :=
  if (tk ((allP intra).map rowC) b 25 1).1 = 0 then
    match (allP intra).find? (fun x => rowC x == b.take (tk ((allP intra).map rowC) b 25 1).2) with
    | some x => (x.2, 0, (tk ((allP intra).map rowC) b 25 1).2)
    | none => (0, 0, 0)
  else (0, (tk ((allP intra).map rowC) b 25 1).1, 0)
theorem allP_free (intra : Bool) : free ((allP intra).map rowC) := by
  cases intra <;> (unfold free; decide +kernel)
theorem allP_ok (intra : Bool) : ∀ x ∈ allP intra, okRow (rowC x) = true := by
  cases intra <;> decide +kernel
theorem allP_wf (intra : Bool) : ∀ x ∈ allP intra, (Lit.int .i64 x.2).wf = true := by
  cases intra <;> decide +kernel
theorem allP_len (intra : Bool) : (allP intra).length = 16 := by simp [allP]
theorem allP_get (intra : Bool) (i : Nat) (h : i < (allP intra).length) : (allP intra)[i] = cellP intra i := by simp [allP]
theorem cellP_all (intra : Bool) {i : Nat} (h : i < 16) : cellP intra i ∈ allP intra := List.mem_map_of_mem (List.mem_range.2 h)
theorem uptoP_all (intra : Bool) (q : List UInt8) : uptoP intra q 16 = (allP intra).filter fun x => q.isPrefixOf (rowC x) := rfl
theorem uptoP_mk (intra : Bool) {c : UInt8} (hc : c = 48 ∨ c = 49) : mkP (uptoP intra [c] 16) := by
  have hf : free ((uptoP intra [c] 16).map rowC) := by
    rw [uptoP_all]
    exact (allP_free intra).sublist ((List.filter_sublist).map rowC)
  have ho : ∀ x ∈ uptoP intra [c] 16, okRow (rowC x) = true := fun x hx => by
    rw [uptoP_all] at hx
    exact allP_ok intra x (List.mem_filter.1 hx).1
  refine ⟨?_, Nat.le_trans (uptoP_len intra [c] 16) (by omega), ho, hf, ?_⟩
  · rcases hc with rfl | rfl <;> cases intra <;> decide +kernel
  · rcases hc with rfl | rfl <;> cases intra <;> decide +kernel
theorem tk_uptoP (intra : Bool) {b : List UInt8} {c : UInt8} (h : b.take 1 = [c]) {ds : List (ByteArray × Int)} (hp : ds.Perm (uptoP intra [c] 16)) : tk (ds.map rowC) b 25 1 = tk ((allP intra).map rowC) b 25 1 := by
  have hl : 1 ≤ b.length := by
    cases b with
    | nil => cases h
    | cons a l => simp
  rw [tk_perm (hp.map rowC), tk_first ((allP intra).map rowC) b hl 25 1 (Nat.le_refl _), uptoP_all, List.filter_map, h]
  rfl
/-- A row is one code's alone. -/
theorem allP_one (intra : Bool) {x y : ByteArray × Int} (hx : x ∈ allP intra) (hy : y ∈ allP intra) (h : rowC x = rowC y) : x = y := by
  obtain ⟨i, hi, rfl⟩ := List.getElem_of_mem hx
  obtain ⟨j, hj, rfl⟩ := List.getElem_of_mem hy
  by_cases hij : i = j
  · subst hij; rfl
  · exfalso
    have := free_get.1 (allP_free intra) i j (by simpa using hi) (by simpa using hj) hij
    rw [List.getElem_map, List.getElem_map, h, pre_refl] at this
    cases this
theorem allP_find (intra : Bool) {x : ByteArray × Int} (hx : x ∈ allP intra) {q : List UInt8} (hq : rowC x = q) : (allP intra).find? (fun y => rowC y == q) = some x := by
  cases h : (allP intra).find? (fun y => rowC y == q) with
  | none =>
    have := List.find?_eq_none.1 h x hx
    rw [hq] at this
    simp at this
  | some y =>
    have h1 := List.find?_some h
    have h2 := List.mem_of_find?_eq_some h
    rw [allP_one intra h2 hx (by rw [hq]; simpa using h1)]
theorem ptk_yes (intra : Bool) {b : List UInt8} {n : Nat} {x : ByteArray × Int} (ht : tk ((allP intra).map rowC) b 25 1 = (0, n)) (hx : x ∈ allP intra) (hq : rowC x = b.take n) :
    ptk intra b = (x.2, 0, n) := by
  unfold ptk
  rw [ht, if_pos rfl, allP_find intra hx hq]
theorem ptk_not (intra : Bool) {b : List UInt8} {n : Nat} {f : Int} (ht : tk ((allP intra).map rowC) b 25 1 = (f, n)) (hf : f ≠ 0) : ptk intra b = (0, f, 0) := by
  unfold ptk
  rw [ht, if_neg hf]
end Go.Proofs.YtfechonaghjcnaaDoor
