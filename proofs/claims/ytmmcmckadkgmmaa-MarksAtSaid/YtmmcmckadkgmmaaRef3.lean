/- What the document's own answers for package inbits tell, and that the chapter's example comes out. Conditions: texts of at most 2^40 bytes. -/
import Derived.Test.YtmmcmckadkgmmaaReader
import Derived.Test.YtmmcmckadkgmmaaLaws
namespace Go.Proofs.Ytmmcmckadkgmmaa
open Go.RowKit

theorem show_size (s : ByteArray) : (⟨(showL s.data.toList).toArray⟩ : ByteArray).size = 8 * s.size := by rw [size_mk, showL_length]; rfl
theorem show_cut (s : ByteArray) (p n : Nat) : (⟨(showL s.data.toList).toArray⟩ : ByteArray).extract p (p + n) = ⟨(((showL s.data.toList).drop p).take n).toArray⟩ := by
  rw [bytes_extract, List.drop_take, show p + n - p = n by omega]

section
attribute [local irreducible] numFrom
/-- Noughts alone tell 0, and nothing else does. -/
theorem num_zero_iff : ∀ l : List UInt8, isRow l = true → (num l = 0 ↔ ∀ i (h : i < l.length), l[i] = 48)
  | [], _ => ⟨fun _ i h => absurd h (Nat.not_lt_zero i), fun _ => by unfold num; rw [numFrom_nil]⟩
  | c :: l, h => by
    obtain ⟨hc, hl⟩ := isRow_head h
    rw [num_cons]
    have hp : 0 < 2 ^ l.length := Nat.two_pow_pos _
    have ih := num_zero_iff l hl
    constructor
    · intro h0 i hi
      have h1 : (c.toNat - 48) * 2 ^ l.length = 0 := by omega
      have h2 : num l = 0 := by omega
      have h3 : c.toNat - 48 = 0 := by
        rcases Nat.mul_eq_zero.1 h1 with e | e
        · exact e
        · omega
      match i, hi with
      | 0, _ =>
        rcases hc with e | e
        · exact e
        · rw [e] at h3; cases h3
      | i + 1, hi => exact ih.1 h2 i (by simpa using hi)
    · intro h0
      have e0 : c = 48 := h0 0 (by simp)
      have e1 : num l = 0 := ih.2 fun i hi => h0 (i + 1) (by simpa using hi)
      rw [e0, e1, show ((48 : UInt8).toNat - 48) = 0 from rfl, Nat.zero_mul]
theorem tell_noughts (l : List UInt8) (p n : Nat) (h : p + n ≤ 8 * l.length) : tell l p n = 0 ↔ ∀ i, i < n → (showL l)[p + i]? = some 48 := by
  have hr := showL_row l
  have hl := showL_length l
  unfold tell
  generalize showL l = S at hr hl
  rw [num_zero_iff _ (isRow_take _ _ (isRow_drop _ _ hr))]
  have hlen : ((S.drop p).take n).length = n := by rw [List.length_take, List.length_drop]; omega
  constructor
  · intro h0 i hi
    have := h0 i (by omega)
    rw [List.getElem_take, List.getElem_drop] at this
    rw [List.getElem?_eq_getElem (by omega), this]
  · intro h0 i hi
    have := h0 i (by omega)
    rw [List.getElem?_eq_getElem (by omega)] at this
    rw [List.getElem_take, List.getElem_drop]
    exact Option.some.inj this

end

theorem ask_a : ask [160] 0 3 = (5, 0) ∧ askTo [160] 0 3 = 3 ∧ fillOf [160] 3 = (5, 0) ∧ fillTo [160] 3 = 8 ∧ ask [160] 8 1 = (0, 2) ∧ askTo [160] 8 1 = 8 := by decide
end Go.Proofs.Ytmmcmckadkgmmaa
