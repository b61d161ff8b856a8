/- Whether two frames are the same: the code's answer and the document's. No condition. -/
import Derived.Test.YtnpmllbdpmkliaaPdoc
namespace Go.Proofs.Ytnpmllbdpmkliaa
open Go.RowKit Go.Lib

theorem str_eq {s1 s2 : ByteArray} {b : Bool} (h : s1 = s2 ↔ b = true) : (s1.toList == s2.toList) = b := by
  rw [ByteArray.toList_eq, ByteArray.toList_eq]
  cases b with
  | true =>
    rw [h.2 rfl]
    simp
  | false =>
    refine beq_eq_false_iff_ne.2 fun e => ?_
    have := h.1 (Go.WideShapes.bytes_inj e)
    cases this
theorem sameF_not {k k' : Int} {n n' : Nat → Nat} {f f' : Nat → Nat → Int} {p : Nat} (hp : p < 3) (e : sameB (n p) (f p) (n' p) (f' p) = false) : sameF k n f k' n' f' = false := by
  cases hq : sameF k n f k' n' f' with
  | false => rfl
  | true =>
    have h := (sameF_iff.1 hq).2 p hp
    rw [e] at h
    cases h
theorem sameF_all {k k' : Int} {n n' : Nat → Nat} {f f' : Nat → Nat → Int} (h : ∀ p, p < 3 → sameB (n p) (f p) (n' p) (f' p) = true) : sameF k n f k' n' f' = decide (k = k') := by
  by_cases e : k = k'
  · rw [decide_eq_true e]
    exact sameF_iff.2 ⟨e, h⟩
  · rw [decide_eq_false e]
    cases hq : sameF k n f k' n' f' with
    | false => rfl
    | true => exact absurd (sameF_iff.1 hq).1 e
theorem sameF_next {n n' : Nat → Nat} {f f' : Nat → Nat → Int} {i : Nat} (h : ∀ p, p < i → sameB (n p) (f p) (n' p) (f' p) = true) (e : sameB (n i) (f i) (n' i) (f' i) = true) : ∀ p, p < i + 1 → sameB (n p) (f p) (n' p) (f' p) = true := by
  intro p hp
  by_cases h1 : p = i
  · subst h1; exact e
  · exact h p (by omega)
end Go.Proofs.Ytnpmllbdpmkliaa
