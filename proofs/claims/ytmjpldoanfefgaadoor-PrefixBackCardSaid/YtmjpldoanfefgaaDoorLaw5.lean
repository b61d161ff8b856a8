/- What the laws of layer 5 have in common. No condition of its own. -/
import Derived.Test.YtmjpldoanfefgaaDoorLives5
import Derived.Test.YtmjpldoanfefgaaDoorRef5
namespace Go.Proofs.YtmjpldoanfefgaaDoor
open Go.RowKit
theorem small_parts {l : List (ByteArray × Int)} (h : smallB l = true) : l.length ≤ 300 ∧ ∀ x ∈ l, x.1.size ≤ 60 := by
  unfold smallB at h
  rw [Bool.and_eq_true, decide_eq_true_iff] at h
  rw [List.take_of_length_le h.2, List.all_eq_true] at h
  exact ⟨h.2, fun x hx => by simpa using h.1 x hx⟩
theorem right_make (l : List (ByteArray × Int)) : (rightP (l.map (·.1)) ∧ (l.map (·.2)).Nodup) ↔ mkP l := by
  unfold rightP mkP
  rw [List.length_map, List.map_map]
  constructor
  · rintro ⟨⟨h1, h2, h3, h4⟩, h5⟩
    exact ⟨h1, h2, fun x hx => h3 x.1 (List.mem_map_of_mem hx), h4, h5⟩
  · rintro ⟨h1, h2, h3, h4, h5⟩
    refine ⟨⟨h1, h2, fun x hx => ?_, h4⟩, h5⟩
    obtain ⟨y, hy, rfl⟩ := List.mem_map.1 hx
    exact h3 y hy
theorem right_len (l : List ByteArray) (n : Nat) (hn : l.length = n) (p : Option Addr) (cap : Nat) (w : World) (r : Bool) (hr : r = true ↔ rightP l) (hc : Strs w p l) (hm : n ≤ 300) (hs : ∀ x ∈ l, x.size ≤ maxLen) :
    Calls Tryd.prog 10 #[.slice p n cap] w fun e w' => e = .returned (.bool r) ∧ Below w.heap.size w w' := by
  subst hn
  exact right_page l p cap w r hr hc hm hs
/-- Codes with the same row are one code. -/
theorem free_one {ds : List (ByteArray × Int)} (hf : free (ds.map rowC)) {x y : ByteArray × Int} (hx : x ∈ ds) (hy : y ∈ ds) (he : rowC x = rowC y) : x = y := by
  obtain ⟨i, hi, rfl⟩ := List.getElem_of_mem hx
  obtain ⟨j, hj, rfl⟩ := List.getElem_of_mem hy
  by_cases hij : i = j
  · subst hij; rfl
  · exfalso
    have := free_get.1 hf i j (by simpa using hi) (by simpa using hj) hij
    rw [List.getElem_map, List.getElem_map, he, pre_refl] at this
    cases this
end Go.Proofs.YtmjpldoanfefgaaDoor
