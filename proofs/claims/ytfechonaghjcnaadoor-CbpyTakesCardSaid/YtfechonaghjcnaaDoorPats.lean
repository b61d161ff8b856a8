/- The rows of package cbpy: the table that its variable holds, and which row a pattern has, by the code and by the document's own answers. Condition: the variable holds its table. -/
import Derived.Test.YtfechonaghjcnaaDoorReader
import Derived.Test.YtfechonaghjcnaaDoorBack
import Derived.WalkKit
import Derived.WalkMore
import Derived.IntWalk
import Derived.Lib.Strings
import Derived.Lib.LaidTab
import Derived.MakeChecks
namespace Go.Proofs.YtfechonaghjcnaaDoor
open Go.RowKit Go.Lib

/-- The sixteen rows, in the order of the patterns of an intra cell. -/
def patL : List ByteArray := [⟨#[48, 48, 49, 49]⟩, ⟨#[48, 48, 49, 48, 49]⟩, ⟨#[48, 48, 49, 48, 48]⟩, ⟨#[49, 48, 48, 49]⟩, ⟨#[48, 48, 48, 49, 49]⟩, ⟨#[48, 49, 49, 49]⟩, ⟨#[48, 48, 48, 48, 49, 48]⟩, ⟨#[49, 48, 49, 49]⟩, ⟨#[48, 48, 48, 49, 48]⟩, ⟨#[48, 48, 48, 48, 49, 49]⟩, ⟨#[48, 49, 48, 49]⟩, ⟨#[49, 48, 49, 48]⟩, ⟨#[48, 49, 48, 48]⟩, ⟨#[49, 48, 48, 48]⟩, ⟨#[48, 49, 49, 48]⟩, ⟨#[49, 49]⟩]
theorem patL_len : patL.length = 16 := rfl
/-- The pattern that has in an intra cell the row that this one has. -/
def sameN (intra : Bool) (i : Nat) : Nat := if intra then i else 15 - i
/-- The row of a pattern; nothing, where it is none. -/
def patAt (intra : Bool) (k : Int) : ByteArray := if 0 ≤ k ∧ k < 16 then patL[sameN intra k.toNat]?.getD ⟨#[]⟩ else ⟨#[]⟩
theorem patAt_out {intra : Bool} {k : Int} (h : k < 0 ∨ 16 ≤ k) : patAt intra k = ⟨#[]⟩ := by
  unfold patAt
  rw [if_neg (by omega)]

/-! ### The table -/
/-- The variable holds its table. -/
def HasPats (w : World) : Prop := ∀ i, (h : i < 16) → w.cell? ⟨0, i, none⟩ = some (.string (patL[i]'(by rw [patL_len]; exact h)))
theorem HasPats.lt {w : World} (h : HasPats w) : 0 < w.heap.size := World.block_lt_of_cell? w ⟨0, 0, none⟩ (h 0 (by decide))
theorem HasPats.below {w w' : World} (h : HasPats w) (hb : Below w.heap.size w w') : HasPats w' := fun i hi => (hb.cell (p := ⟨0, i, none⟩) h.lt).trans (h i hi)
/-- An array of texts that reads as a table holds the table's texts, cell for cell. -/
theorem cells_of_texts {H : Type} {enc : TypeId × Value → H} {P : Program} {w : World} {base : Nat} {sp : Nat → Bool} {held : Bool} {fuel : Nat} {t e : TypeId} {n : Nat} {cs : List Value} {ls : List (List UInt8)} {p : List MemPlace}
    (ht : P.underlying t = some (.array n e)) (he : P.underlying e = some .string) (hce : P.cellsOf e = 1) (hct : P.cellsOf t = n)
    (h : DataW.trod enc P w base sp held fuel t cs = some (.agg (ls.map fun l => .lit (.string l)), p)) (i : Nat) (hi : i < n) : ∃ s : ByteArray, cs[i]? = some (.string s) ∧ ls[i]? = some s.data.toList := by
  cases fuel with
  | zero => simp [DataW.trod] at h
  | succ fuel =>
    simp only [DataW.trod, ht, hce, hct, Nat.mul_one] at h
    split at h
    · obtain ⟨xs, hm, hx⟩ := Option.map_eq_some_iff.1 h
      have hxs : xs.map (·.1) = ls.map fun l => (DataW.lit (.string l) : DataW H) := by
        have := congrArg Prod.fst hx
        simpa using this
      obtain ⟨b, hb, hf⟩ := mapM_at hm i i (by simp [hi])
      obtain ⟨s, hc, rfl, _⟩ := DataW.trod_string he hf
      refine ⟨s, ?_, ?_⟩
      · have := congrArg (·[0]?) hc
        simpa [List.getElem?_take, List.getElem?_drop] using this
      · have h2 : (xs.map (·.1))[i]? = some (DataW.lit (.string s.data.toList) : DataW H) := by simp [hb]
        rw [hxs] at h2
        simp only [List.getElem?_map, Option.map_eq_some_iff, DataW.lit.injEq, Lit.string.injEq] at h2
        obtain ⟨l, hl, rfl⟩ := h2
        exact hl
    · cases h

/-! ### Which row a pattern has -/
theorem same_code (intra : Bool) (k : Int) (h0 : -1000 ≤ k) (h1 : k ≤ 1000) (w : World) : Calls Tryd.prog 17 #[.bool intra, .int .i64 k] w fun e w' => e = .returned (.int .i64 (if intra then k else 15 - k)) ∧ w = w' := by
  cases intra with
  | true =>
    go_enter Tryd.func17, Tryd.ntmps17
    go_wp2
    go_ret
    exact ⟨rfl, rfl⟩
  | false =>
    go_enter Tryd.func17, Tryd.ntmps17
    go_wp2
    go_ret
    exact ⟨rfl, rfl⟩
theorem sameN_lt {intra : Bool} {i : Nat} (h : i < 16) : sameN intra i < 16 := by
  unfold sameN
  split <;> omega
theorem sameN_back {intra : Bool} {i : Nat} (h : i < 16) : sameN intra (sameN intra i) = i := by
  unfold sameN
  split <;> omega
theorem same_nat (intra : Bool) (i : Nat) (h : i < 16) (w : World) : Calls Tryd.prog 17 #[.bool intra, .int .i64 (i : Int)] w fun e w' => e = .returned (.int .i64 (sameN intra i : Nat)) ∧ w = w' := by
  refine (same_code intra i (by omega) (by omega) w).mono ?_
  rintro e w' ⟨rfl, rfl⟩
  have e : (if intra then (i : Int) else 15 - (i : Int)) = (sameN intra i : Nat) := by
    unfold sameN
    cases intra
    · simp; omega
    · rfl
  exact ⟨by rw [← e], rfl⟩
theorem patL_some : ∀ j, (h : j < 16) → (patL[j]'(by rw [patL_len]; exact h)).data.toList.isEmpty = false := by decide +kernel
theorem patAt_in {intra : Bool} {a j : Nat} (h : a < 16) (hj : sameN intra a = j) : patAt intra (a : Int) = patL[j]'(by rw [patL_len, ← hj]; exact sameN_lt h) := by
  unfold patAt
  have hj16 : j < patL.length := by rw [patL_len, ← hj]; exact sameN_lt h
  rw [if_pos (by omega), Int.toNat_natCast]
  have e : patL[sameN intra a]? = some patL[j] := by rw [hj]; exact List.getElem?_eq_getElem hj16
  rw [e]
  rfl
theorem prow_code (intra : Bool) (k : Int) (w : World) (hp : HasPats w) : Calls Tryd.prog 6 #[.bool intra, .int .i64 k] w fun e w' => e = .returned (.tuple #[.string (patAt intra k), .bool (!(patAt intra k).data.toList.isEmpty)]) ∧ Below w.heap.size w w' := by
  by_cases h0 : k < 0
  · have F := Lib.hid (patAt_out (intra := intra) (.inl h0))
    have t0 : decide (k < 0) = true := by simpa using h0
    clear h0
    rw [F.out]
    go_enter Tryd.func6, Tryd.ntmps6
    go_wp2
    go_ret2
    exact ⟨rfl, Below.refl _ _⟩
  by_cases h4 : 16 ≤ k
  · have F := Lib.hid (patAt_out (intra := intra) (.inr h4))
    have t0 : decide (k < 0) = false := by simpa using h0
    have t1 : decide (16 ≤ k) = true := by simpa using h4
    clear h0 h4
    rw [F.out]
    go_enter Tryd.func6, Tryd.ntmps6
    go_wp2
    go_ret2
    exact ⟨rfl, Below.refl _ _⟩
  obtain ⟨a, rfl⟩ : ∃ a : Nat, k = a := ⟨k.toNat, by omega⟩
  have t0 : decide ((a : Int) < 0) = false := by simp
  have t1 : decide (16 ≤ (a : Int)) = false := by simp; omega
  have ha : a < 16 := by omega
  obtain ⟨j, hj⟩ : ∃ j, sameN intra a = j := ⟨_, rfl⟩
  have hj16 : j < 16 := by rw [← hj]; exact sameN_lt ha
  have hcon := fun x => same_nat intra a ha x
  rw [hj] at hcon
  have F := Lib.hid (patAt_in (intra := intra) ha hj)
  obtain ⟨s, hs⟩ : ∃ s, patL[j]'(by rw [patL_len]; exact hj16) = s := ⟨_, rfl⟩
  have hne : s.data.toList.isEmpty = false := by rw [← hs]; exact patL_some j hj16
  have c0 : w.cell? ⟨0, j, none⟩ = some (.string s) := (hp j hj16).trans (by rw [← hs])
  rw [hs] at F
  have G := Lib.hid (show (!s.data.toList.isEmpty) = true by rw [hne]; rfl)
  rw [F.out, G.out]
  clear h0 h4 hj hs hne F hp
  go_enter Tryd.func6, Tryd.ntmps6
  go_wp2_with fail
  refine (hcon _).mono ?_
  rintro e w1 ⟨rfl, rfl⟩
  go_wp2
  go_ret2
  exact ⟨rfl, Below.refl _ _⟩
end Go.Proofs.YtfechonaghjcnaaDoor
