/- What digits, Row and Show of package outbits do. Conditions: numbers are what an int holds, widths from 0 to 32. -/
import Derived.Test.YtologhgoojkpmaaDoorRef2
namespace Go.Proofs.YtologhgoojkpmaaDoor
open Go.RowKit

theorem shr_one (x : Int) : bits .and .i64 x 1 = x % 2 := and_low x 1 (by omega)
theorem digit_byte (y : Nat) : (((digit y).toNat : Nat) : Int) = 48 + (y : Int) % 2 := by
  have h : y % 2 = 0 ∨ y % 2 = 1 := by omega
  unfold digit
  rcases h with h | h
  · rw [if_pos h]; have : ((48 : UInt8).toNat : Int) = 48 := rfl; omega
  · rw [if_neg (by omega)]; have : ((49 : UInt8).toNat : Int) = 49 := rfl; omega
theorem digit_cell (v k : Nat) : (48 + bits .and .i64 ((v : Int) / 2 ^ k) 1) % 256 = (((digit (v / 2 ^ k)).toNat : Nat) : Int) := by
  rw [shr_one, digit_byte]
  have e : (((v / 2 ^ k : Nat)) : Int) = (v : Int) / 2 ^ k := by simp
  rw [e]
  omega
theorem rowOf_take (v : Nat) : ∀ (n j : Nat), j < n → (rowOf v n).take (j + 1) = (rowOf v n).take j ++ [digit (v / 2 ^ (n - 1 - j))]
  | 0, j, h => by omega
  | n + 1, 0, _ => by simp [rowOf]
  | n + 1, j + 1, h => by
    have ih := rowOf_take v n j (by omega)
    rw [rowOf, List.take_succ_cons, List.take_succ_cons, ih, show n + 1 - 1 - (j + 1) = n - 1 - j by omega]
    rfl

set_option maxRecDepth 100000 in
set_option maxHeartbeats 1000000 in
theorem digits_code (v n : Int) (sv : Value) (l : List UInt8) (B : Nat) (w : World) (h1 : 0 ≤ v) (h2 : v ≤ 9223372036854775807) (h3 : 0 ≤ n) (h4 : n ≤ 32)
    (hown : OwnBytes w B 5 sv l) (hl : l.length ≤ 1073741824) (hB : B ≤ w.heap.size) :
    Calls Tryd.prog 59 #[sv, .int .i64 v, .int .i64 n] w fun e w' => ∃ sv', e = .returned sv' ∧ OwnBytes w' B 5 sv' (l ++ rowOf v.toNat n.toNat) ∧ Below B w w' := by
  obtain ⟨i0, hi, hz0, hz1, hz2⟩ := info_parts info_u8
  obtain ⟨v, rfl⟩ := Int.eq_ofNat_of_zero_le h1
  obtain ⟨n, rfl⟩ := Int.eq_ofNat_of_zero_le h3
  simp only [Int.toNat_natCast]
  clear h1 h3
  go_enter Tryd.func59, Tryd.ntmps59
  go_wp2
  go_loopw [0, 7] (fun s p wr => ∃ j : Nat, j ≤ n ∧ p = .int .i64 ((n : Int) - 1 - j) ∧ OwnBytes wr B 5 s (l ++ (rowOf v n).take j) ∧ Below B w wr) (fun _ p _ => (intOf p + 1).toNat)
  case atStart => exact ⟨0, Nat.zero_le _, by simp, by simpa using hown, Below.refl _ _⟩
  case round =>
    obtain ⟨j, hj, rfl, hown1, hb⟩ := hrel
    have hsz := hb.size
    by_cases hlt : j < n
    · have hp : 0 ≤ (n : Int) - 1 - j := by omega
      have hln : (l ++ (rowOf v n).take j).length ≤ 1073741824 + 32 := by rw [List.length_append, List.length_take, rowOf_length]; omega
      have hst := rowOf_take v n j hlt
      have T := Lib.hid hst
      clear hst
      go_wp2_with (at_builtin; refine wp_append_byte (b := digit (v / 2 ^ (n - 1 - j))) rfl rfl Tryd.underlying64 hi hz0 hz1 hz2 rfl (hown1.alloc _) rfl ?c1 ?c2 ?c3 ?_; (case c1 => (rw [digit_cell]; go_cell)); (case c2 => omega); (case c3 => (simp; omega)); intro v1 w1 hown2 hgrow)
      rw [List.append_assoc, ← T.out] at hown2
      go_roundw
      case rel => exact ⟨j + 1, by omega, by go_num, hown2, (hb.alloc (by omega) _).grown hgrow (by simp; omega) (own_from hown1)⟩
      case measure => simp [intOf]; omega
    · obtain rfl : j = n := by omega
      have hp : ¬ 0 ≤ (j : Int) - 1 - j := by omega
      go_wp2
      go_ret
      exact ⟨_, rfl, by rwa [List.take_of_length_le (by rw [rowOf_length]; exact Nat.le_refl _)] at hown1, hb⟩

theorem ret_row {a b : List UInt8} {k : IntKind} {c : Int} (h : a = b) : Ending.returned (.tuple #[.string ⟨a.toArray⟩, .int k c]) = .returned (.tuple #[.string ⟨b.toArray⟩, .int k c]) := by rw [h]
theorem fits_parts {v n : Int} (h : fitsIn v n = true) : 0 ≤ n ∧ n ≤ 32 ∧ 0 ≤ v ∧ v < 2 ^ n.toNat := by
  unfold fitsIn at h
  simpa using h
theorem over_zero (v n : Int) (h0 : 0 ≤ v) (h1 : v < 2 ^ n.toNat) : v / 2 ^ n.toNat = 0 := Int.ediv_eq_zero_of_lt h0 h1
theorem over_some (v n : Int) (h1 : ¬ v < 2 ^ n.toNat) : (v / 2 ^ n.toNat != 0) = true := by
  have hp : (0 : Int) < 2 ^ n.toNat := Int.pow_pos (by decide)
  have : 1 ≤ v / 2 ^ n.toNat := by
    rw [Int.le_ediv_iff_mul_le hp]; omega
  rw [bne_iff_ne]; omega

set_option maxHeartbeats 1000000 in
theorem row_code (v n : Int) (w : World) (h2 : v ≤ 9223372036854775807) (hf : fitsIn v n = true) :
    Calls Tryd.prog 46 #[.int .i64 v, .int .i64 n] w fun e w' => e = .returned (.tuple #[.string ⟨(rowOf v.toNat n.toNat).toArray⟩, .int .i64 0]) ∧ Below w.heap.size w w' := by
  obtain ⟨n0, n1, v0, v1⟩ := fits_parts hf
  have hz := over_zero v n v0 v1
  have t1 : (v / 2 ^ n.toNat != 0) = false := by rw [hz]; rfl
  have t2 : decide (n < 0) = false := by simpa using n0
  have t3 : decide (32 < n) = false := by simpa using n1
  have t4 : decide (v < 0) = false := by simpa using v0
  clear hz hf v1
  go_enter Tryd.func46, Tryd.ntmps46
  go_wp2_with fail
  refine (digits_code _ _ _ [] w.heap.size _ v0 h2 n0 n1 (OwnBytes.nil _ _ _) (by simp) (by simp)).mono ?_
  rintro e w1 ⟨sv, rfl, hown, hb⟩
  rw [List.nil_append] at hown
  have ht := OwnBytes.text Tryd.underlying64 Tryd.underlying5 Tryd.underlying9 hown
  go_wp2
  go_ret2
  exact ⟨rfl, hb⟩

set_option maxHeartbeats 1000000 in
theorem row_none (v n : Int) (w : World) (h2 : v ≤ 9223372036854775807) (hf : fitsIn v n = false) :
    Calls Tryd.prog 46 #[.int .i64 v, .int .i64 n] w fun e w' => e = .returned (.tuple #[.string ⟨#[]⟩, .int .i64 1]) ∧ w = w' := by
  unfold fitsIn at hf
  rw [decide_eq_false_iff_not] at hf
  by_cases t1 : n < 0
  · have d1 : decide (n < 0) = true := by simpa using t1
    clear hf
    go_enter Tryd.func46, Tryd.ntmps46
    go_wp2
    go_ret2
    exact ⟨rfl, rfl⟩
  · have d1 : decide (n < 0) = false := by simpa using t1
    by_cases t2 : 32 < n
    · have d2 : decide (32 < n) = true := by simpa using t2
      clear hf t1
      go_enter Tryd.func46, Tryd.ntmps46
      go_wp2
      go_ret2
      exact ⟨rfl, rfl⟩
    · have d2 : decide (32 < n) = false := by simpa using t2
      by_cases t3 : v < 0
      · have d3 : decide (v < 0) = true := by simpa using t3
        clear hf t1 t2
        go_enter Tryd.func46, Tryd.ntmps46
        go_wp2
        go_ret2
        exact ⟨rfl, rfl⟩
      · have d3 : decide (v < 0) = false := by simpa using t3
        have d4 := over_some v n (fun h => hf ⟨by omega, by omega, by omega, h⟩)
        have n0 : 0 ≤ n := by omega
        have v0 : 0 ≤ v := by omega
        have n1 : n ≤ 32 := by omega
        clear hf t1 t2 t3
        go_enter Tryd.func46, Tryd.ntmps46
        go_wp2
        go_ret2
        exact ⟨rfl, rfl⟩

end Go.Proofs.YtologhgoojkpmaaDoor
