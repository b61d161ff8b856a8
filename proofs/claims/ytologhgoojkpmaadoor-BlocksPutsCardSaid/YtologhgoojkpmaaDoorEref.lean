/- The document's own answers of layer 9 (tcoef): the rows of its tables, whether an event is right, and its row. No condition but the callers' own ranges. -/
import Derived.Test.YtologhgoojkpmaaDoorWords
import Derived.Test.YtologhgoojkpmaaDoorEtk
import Derived.Test.YtologhgoojkpmaaDoorEcode
namespace Go.Proofs.YtologhgoojkpmaaDoor
open Go.RowKit Go.Lib

/-- The tables, as the page has them. -/
def tabT : List ByteArray := [⟨#[49, 48, 32, 49, 49, 49, 49, 32, 48, 49, 48, 49, 48, 49, 32, 48, 48, 49, 48, 49, 49, 49, 32, 48, 48, 48, 49, 49, 49, 49, 49, 32, 48, 48, 48, 49, 48, 48, 49, 48, 49, 32, 48, 48, 48, 49, 48, 48, 49, 48, 48, 32, 48, 48, 48, 48, 49, 48, 48, 48, 48, 49, 32, 48, 48, 48, 48, 49, 48, 48, 48, 48, 48, 32, 48, 48, 48, 48, 48, 48, 48, 48, 49, 49, 49, 32, 48, 48, 48, 48, 48, 48, 48, 48, 49, 49, 48, 32, 48, 48, 48, 48, 48, 49, 48, 48, 48, 48, 48]⟩, ⟨#[49, 49, 48, 32, 48, 49, 48, 49, 48, 48, 32, 48, 48, 48, 49, 49, 49, 49, 48, 32, 48, 48, 48, 48, 48, 48, 49, 49, 49, 49, 32, 48, 48, 48, 48, 48, 49, 48, 48, 48, 48, 49, 32, 48, 48, 48, 48, 48, 49, 48, 49, 48, 48, 48, 48]⟩, ⟨#[49, 49, 49, 48, 32, 48, 48, 48, 49, 49, 49, 48, 49, 32, 48, 48, 48, 48, 48, 48, 49, 49, 49, 48, 32, 48, 48, 48, 48, 48, 49, 48, 49, 48, 48, 48, 49]⟩, ⟨#[48, 49, 49, 48, 49, 32, 48, 48, 48, 49, 48, 48, 48, 49, 49, 32, 48, 48, 48, 48, 48, 48, 49, 49, 48, 49]⟩, ⟨#[48, 49, 49, 48, 48, 32, 48, 48, 48, 49, 48, 48, 48, 49, 48, 32, 48, 48, 48, 48, 48, 49, 48, 49, 48, 48, 49, 48]⟩, ⟨#[48, 49, 48, 49, 49, 32, 48, 48, 48, 48, 48, 48, 49, 49, 48, 48, 32, 48, 48, 48, 48, 48, 49, 48, 49, 48, 48, 49, 49]⟩, ⟨#[48, 49, 48, 48, 49, 49, 32, 48, 48, 48, 48, 48, 48, 49, 48, 49, 49, 32, 48, 48, 48, 48, 48, 49, 48, 49, 48, 49, 48, 48]⟩, ⟨#[48, 49, 48, 48, 49, 48, 32, 48, 48, 48, 48, 48, 48, 49, 48, 49, 48]⟩, ⟨#[48, 49, 48, 48, 48, 49, 32, 48, 48, 48, 48, 48, 48, 49, 48, 48, 49]⟩, ⟨#[48, 49, 48, 48, 48, 48, 32, 48, 48, 48, 48, 48, 48, 49, 48, 48, 48]⟩, ⟨#[48, 48, 49, 48, 49, 49, 48, 32, 48, 48, 48, 48, 48, 49, 48, 49, 48, 49, 48, 49]⟩, ⟨#[48, 48, 49, 48, 49, 48, 49]⟩, ⟨#[48, 48, 49, 48, 49, 48, 48]⟩, ⟨#[48, 48, 48, 49, 49, 49, 48, 48]⟩, ⟨#[48, 48, 48, 49, 49, 48, 49, 49]⟩, ⟨#[48, 48, 48, 49, 48, 48, 48, 48, 49]⟩, ⟨#[48, 48, 48, 49, 48, 48, 48, 48, 48]⟩, ⟨#[48, 48, 48, 48, 49, 49, 49, 49, 49]⟩, ⟨#[48, 48, 48, 48, 49, 49, 49, 49, 48]⟩, ⟨#[48, 48, 48, 48, 49, 49, 49, 48, 49]⟩, ⟨#[48, 48, 48, 48, 49, 49, 49, 48, 48]⟩, ⟨#[48, 48, 48, 48, 49, 49, 48, 49, 49]⟩, ⟨#[48, 48, 48, 48, 49, 49, 48, 49, 48]⟩, ⟨#[48, 48, 48, 48, 48, 49, 48, 48, 48, 49, 48]⟩, ⟨#[48, 48, 48, 48, 48, 49, 48, 48, 48, 49, 49]⟩, ⟨#[48, 48, 48, 48, 48, 49, 48, 49, 48, 49, 49, 48]⟩, ⟨#[48, 48, 48, 48, 48, 49, 48, 49, 48, 49, 49, 49]⟩]
def endT : List ByteArray := [⟨#[48, 49, 49, 49, 32, 48, 48, 48, 48, 49, 49, 48, 48, 49, 32, 48, 48, 48, 48, 48, 48, 48, 48, 49, 48, 49]⟩, ⟨#[48, 48, 49, 49, 49, 49, 32, 48, 48, 48, 48, 48, 48, 48, 48, 49, 48, 48]⟩, ⟨#[48, 48, 49, 49, 49, 48]⟩, ⟨#[48, 48, 49, 49, 48, 49]⟩, ⟨#[48, 48, 49, 49, 48, 48]⟩, ⟨#[48, 48, 49, 48, 48, 49, 49]⟩, ⟨#[48, 48, 49, 48, 48, 49, 48]⟩, ⟨#[48, 48, 49, 48, 48, 48, 49]⟩, ⟨#[48, 48, 49, 48, 48, 48, 48]⟩, ⟨#[48, 48, 48, 49, 49, 48, 49, 48]⟩, ⟨#[48, 48, 48, 49, 49, 48, 48, 49]⟩, ⟨#[48, 48, 48, 49, 49, 48, 48, 48]⟩, ⟨#[48, 48, 48, 49, 48, 49, 49, 49]⟩, ⟨#[48, 48, 48, 49, 48, 49, 49, 48]⟩, ⟨#[48, 48, 48, 49, 48, 49, 48, 49]⟩, ⟨#[48, 48, 48, 49, 48, 49, 48, 48]⟩, ⟨#[48, 48, 48, 49, 48, 48, 49, 49]⟩, ⟨#[48, 48, 48, 48, 49, 49, 48, 48, 48]⟩, ⟨#[48, 48, 48, 48, 49, 48, 49, 49, 49]⟩, ⟨#[48, 48, 48, 48, 49, 48, 49, 49, 48]⟩, ⟨#[48, 48, 48, 48, 49, 48, 49, 48, 49]⟩, ⟨#[48, 48, 48, 48, 49, 48, 49, 48, 48]⟩, ⟨#[48, 48, 48, 48, 49, 48, 48, 49, 49]⟩, ⟨#[48, 48, 48, 48, 49, 48, 48, 49, 48]⟩, ⟨#[48, 48, 48, 48, 49, 48, 48, 48, 49]⟩, ⟨#[48, 48, 48, 48, 48, 48, 48, 49, 49, 49]⟩, ⟨#[48, 48, 48, 48, 48, 48, 48, 49, 49, 48]⟩, ⟨#[48, 48, 48, 48, 48, 48, 48, 49, 48, 49]⟩, ⟨#[48, 48, 48, 48, 48, 48, 48, 49, 48, 48]⟩, ⟨#[48, 48, 48, 48, 48, 49, 48, 48, 49, 48, 48]⟩, ⟨#[48, 48, 48, 48, 48, 49, 48, 48, 49, 48, 49]⟩, ⟨#[48, 48, 48, 48, 48, 49, 48, 48, 49, 49, 48]⟩, ⟨#[48, 48, 48, 48, 48, 49, 48, 48, 49, 49, 49]⟩, ⟨#[48, 48, 48, 48, 48, 49, 48, 49, 49, 48, 48, 48]⟩, ⟨#[48, 48, 48, 48, 48, 49, 48, 49, 49, 48, 48, 49]⟩, ⟨#[48, 48, 48, 48, 48, 49, 48, 49, 49, 48, 49, 48]⟩, ⟨#[48, 48, 48, 48, 48, 49, 48, 49, 49, 48, 49, 49]⟩, ⟨#[48, 48, 48, 48, 48, 49, 48, 49, 49, 49, 48, 48]⟩, ⟨#[48, 48, 48, 48, 48, 49, 48, 49, 49, 49, 48, 49]⟩, ⟨#[48, 48, 48, 48, 48, 49, 48, 49, 49, 49, 49, 48]⟩, ⟨#[48, 48, 48, 48, 48, 49, 48, 49, 49, 49, 49, 49]⟩]
def pageT (last : Bool) : List ByteArray := if last then endT else tabT
theorem tabT_len : tabT.length = 27 := rfl
theorem endT_len : endT.length = 41 := rfl
/-- The rows of a Last and a Run. -/
def placesT (last : Bool) (run : Nat) : List Nat := (List.range (amtT last run)).map fun i => baseT last + sumT last run + i
def rowsP (last : Bool) (run : Nat) : List (List UInt8) := (placesT last run).map fun p => rowC (cellT p)
theorem tabT_rows : ∀ r, (h : r < 27) → splitL (tabT[r]'(by rw [tabT_len]; exact h)).data.toList = rowsP false r ∧ (tabT[r]'(by rw [tabT_len]; exact h)).size ≤ 200 := by decide +kernel
theorem endT_rows : ∀ r, (h : r < 41) → splitL (endT[r]'(by rw [endT_len]; exact h)).data.toList = rowsP true r ∧ (endT[r]'(by rw [endT_len]; exact h)).size ≤ 200 := by decide +kernel
theorem rowsP_none {last : Bool} {r : Nat} (h : (if last then 41 else 27) ≤ r) : rowsP last r = [] := by
  have h0 : amtT last r = 0 := by
    unfold amtT
    cases last
    · simp only [Bool.false_eq_true, if_false] at h ⊢
      rw [if_neg (by omega), if_neg (by omega)]
    · simp only [if_true] at h ⊢
      rw [if_neg (by omega), if_neg (by omega), if_neg (by omega)]
  unfold rowsP placesT
  rw [h0]
  rfl
set_option maxRecDepth 100000 in
set_option maxHeartbeats 1000000 in
theorem table_page (w : World) : Calls Tryd.prog 55 #[] w fun e w' => e = .returned (.slice (some ⟨w.heap.size, 0, none⟩) 27 27) ∧ Strs w' (some ⟨w.heap.size, 0, none⟩) tabT ∧ Below w.heap.size w w' := by
  go_enter Tryd.func55, Tryd.ntmps55
  go_wp2
  go_ret
  exact ⟨rfl, strs_blockP (T := 9) (l := tabT) (heap_alloc_new w _), (Below.refl _ w).alloc (Nat.le_refl _) _⟩
set_option maxRecDepth 100000 in
set_option maxHeartbeats 1000000 in
theorem ends_page (w : World) : Calls Tryd.prog 56 #[] w fun e w' => e = .returned (.slice (some ⟨w.heap.size, 0, none⟩) 41 41) ∧ Strs w' (some ⟨w.heap.size, 0, none⟩) endT ∧ Below w.heap.size w w' := by
  go_enter Tryd.func56, Tryd.ntmps56
  go_wp2
  go_ret
  exact ⟨rfl, strs_blockP (T := 9) (l := endT) (heap_alloc_new w _), (Below.refl _ w).alloc (Nat.le_refl _) _⟩
/-- What 'rows' gives. -/
def RowsP (last : Bool) (run : Nat) (w : World) (e : Ending) (w' : World) : Prop :=
  ∃ (l : List ByteArray) (q : Option Addr) (cap : Nat), e = .returned (.slice q l.length cap) ∧ rawL l = rowsP last run ∧ Strs w' q l ∧ (∀ a, q = some a → w.heap.size ≤ a.block) ∧ Below w.heap.size w w'
set_option maxRecDepth 100000 in
set_option maxHeartbeats 1000000 in
theorem rows_page (last : Bool) (run : Nat) (hr : run < 64) (w : World) : Calls Tryd.prog 44 #[.bool last, .int .i64 (run : Int)] w (RowsP last run w) := by
  cases last with
  | false =>
    by_cases h : 27 ≤ run
    · have F := Lib.hid (rowsP_none (last := false) (r := run) h)
      have t0 : decide (27 ≤ (run : Int)) = true := by simp; omega
      have t1 : decide (27 ≤ run) = true := by simpa using h
      go_enter Tryd.func44, Tryd.ntmps44
      go_wp2_with fail
      refine (table_page _).mono ?_
      rintro e w1 ⟨rfl, hst, hb⟩
      go_wp2
      go_ret
      exact ⟨[], none, 0, rfl, by rw [F.out]; rfl, .inl rfl, fun _ h => (by cases h), hb⟩
    · obtain ⟨f1, f2⟩ := tabT_rows run (by omega)
      have t0 : decide (27 ≤ (run : Int)) = false := by simp; omega
      have t1 : decide (27 ≤ run) = false := by simpa using h
      obtain ⟨s, hs⟩ : ∃ s, tabT[run]'(by rw [tabT_len]; omega) = s := ⟨_, rfl⟩
      rw [hs] at f1 f2
      have F := Lib.hid f1
      have HS := Lib.hid hs
      clear f1 hs
      go_enter Tryd.func44, Tryd.ntmps44
      go_wp2_with fail
      refine (table_page _).mono ?_
      rintro e w1 ⟨rfl, hst, hb⟩
      obtain ⟨b, o, e, _, hc⟩ := hst.at (by rw [tabT_len]; omega)
      cases e
      have c0 : w1.cell? ⟨w.heap.size, 0 + run, none⟩ = some (.string s) := (hc run (by rw [tabT_len]; omega)).trans (congrArg (fun x => some (Value.string x)) HS.out)
      rw [Nat.zero_add] at c0
      have hz := hb.size
      clear hc
      go_wp2_with fail
      refine (words_page s f2 _).mono ?_
      rintro e w2 ⟨l, q, cap, rfl, h1, h2, h3, h4, hb2⟩
      have H1 := Lib.hid h1
      have H4 := Lib.hid h4
      clear h1 h4
      go_wp2
      go_ret
      exact ⟨l, q, cap, rfl, H1.out.trans F.out, h2, fun a h => Nat.le_trans hz (H4.out a h), hb.trans (hb2.mono hz)⟩
  | true =>
    by_cases h : 41 ≤ run
    · have F := Lib.hid (rowsP_none (last := true) (r := run) h)
      have t0 : decide (41 ≤ (run : Int)) = true := by simp; omega
      have t1 : decide (41 ≤ run) = true := by simpa using h
      go_enter Tryd.func44, Tryd.ntmps44
      go_wp2_with fail
      refine (table_page _).mono ?_
      rintro e w0 ⟨rfl, _, hb0⟩
      have hz0 := hb0.size
      go_wp2_with fail
      refine (ends_page _).mono ?_
      rintro e w1 ⟨rfl, hst, hb⟩
      go_wp2
      go_ret
      exact ⟨[], none, 0, rfl, by rw [F.out]; rfl, .inl rfl, fun _ h => (by cases h), hb0.trans (hb.mono hz0)⟩
    · obtain ⟨f1, f2⟩ := endT_rows run (by omega)
      have t0 : decide (41 ≤ (run : Int)) = false := by simp; omega
      have t1 : decide (41 ≤ run) = false := by simpa using h
      obtain ⟨s, hs⟩ : ∃ s, endT[run]'(by rw [endT_len]; omega) = s := ⟨_, rfl⟩
      rw [hs] at f1 f2
      have F := Lib.hid f1
      have HS := Lib.hid hs
      clear f1 hs
      go_enter Tryd.func44, Tryd.ntmps44
      go_wp2_with fail
      refine (table_page _).mono ?_
      rintro e w0 ⟨rfl, _, hb0⟩
      have hz0 := hb0.size
      go_wp2_with fail
      refine (ends_page _).mono ?_
      rintro e w1 ⟨rfl, hst, hb⟩
      obtain ⟨b, o, e, _, hc⟩ := hst.at (by rw [endT_len]; omega)
      cases e
      have c0 : w1.cell? ⟨w0.heap.size, 0 + run, none⟩ = some (.string s) := (hc run (by rw [endT_len]; omega)).trans (congrArg (fun x => some (Value.string x)) HS.out)
      rw [Nat.zero_add] at c0
      have hb1 := hb0.trans (hb.mono hz0)
      have hz := hb1.size
      clear hc
      go_wp2_with fail
      refine (words_page s f2 _).mono ?_
      rintro e w2 ⟨l, q, cap, rfl, h1, h2, h3, h4, hb2⟩
      have H1 := Lib.hid h1
      have H4 := Lib.hid h4
      clear h1 h4
      go_wp2
      go_ret
      exact ⟨l, q, cap, rfl, H1.out.trans F.out, h2, fun a h => Nat.le_trans hz (H4.out a h), hb1.trans (hb2.mono hz)⟩
end Go.Proofs.YtologhgoojkpmaaDoor
