/- Texts that SheetheadTakes's proof stands on, part 3 of 20. No condition of its own. -/
import Derived.Test.YtgbnpmpkfkijdaaSheetheadTakesMa
import Derived.Test.YtgbnpmpkfkijdaaSheetheadTakesMb
import Derived.Test.YtgbnpmpkfkijdaaRows
import Derived.WalkKit
import Derived.WalkSpells
import Derived.ProofKit
import Derived.Lib.Hide
import Derived.LoopTactic
import Derived.Laws.Concat
import Derived.Outline
import Derived.Below
namespace Go.Proofs.Ytgbnpmpkfkijdaa
open Go.RowKit
theorem halve (m j x : Nat) (h : m / 2 ^ j = x) : m / 2 ^ (j + 1) = x / 2 := by rw [Nat.pow_succ, ← Nat.div_div_eq_div_mul, h]
def fitsIn (v n : Int) : Bool := decide (0 ≤ n ∧ n ≤ 32 ∧ 0 ≤ v ∧ v < 2 ^ n.toNat)
set_option maxHeartbeats 400000 in
theorem row_page (vi ni : Int) (h1 : 0 ≤ vi) (h2 : vi ≤ 9223372036854775807) (h3 : 0 ≤ ni) (h4 : ni ≤ 32) (w : World) :
  Calls Try.prog 30 #[.int .i64 vi, .int .i64 ni] w fun e w' => e = .returned (.string ⟨(rowOf vi.toNat ni.toNat).toArray⟩) ∧ w = w' := by
 obtain ⟨v, rfl⟩ := Int.eq_ofNat_of_zero_le h1
 obtain ⟨n, rfl⟩ := Int.eq_ofNat_of_zero_le h3
 simp only [Int.toNat_natCast]
 have v2 : v ≤ 9223372036854775807 := by omega
 have n2 : n ≤ 32 := by omega
 clear h1 h2 h3 h4
 go_enter Try.func30, Try.ntmps30
 go_wp2
 go_loop [0, 5, 6] (fun x s i => ∃ j y : Nat, j ≤ n ∧ i = .int .i64 j ∧ x = .int .i64 y ∧ s = .string ⟨(rowOf v j).toArray⟩ ∧ v / 2 ^ j = y) (fun _ _ i => n - (intOf i).toNat)
 case atStart => exact ⟨0, v, Nat.zero_le _, rfl, rfl, rfl, by simp⟩
 case round =>
  obtain ⟨j, y, hj, rfl, rfl, rfl, hy⟩ := hrel
  have hq : y ≤ v := by rw [← hy]; exact Nat.div_le_self _ _
  have Y := Lib.hid hy
  clear hy
  have hl : (rowOf v j).length ≤ 32 := by rw [rowOf_length]; omega
  by_cases hlt : j < n
  ·go_wp2
   go_round
   case rel => exact ⟨j + 1, y / 2, by omega, by go_num, by go_num, by rw [rowOf_step _ _ _ Y.out], halve _ _ _ Y.out⟩
   case measure => simp [intOf]; omega
  ·obtain rfl : j = n := by omega
   go_wp2
   go_ret
   exact ⟨rfl, rfl⟩
theorem all_take (p : UInt8 → Bool) (l : List UInt8) (j : Nat) (h : j < l.length) : (l.take (j + 1)).all p = ((l.take j).all p && p l[j]) := by
 rw [List.take_succ_eq_append_getElem h, List.all_append]; simp
theorem ret_text {a b : List UInt8} (h : a = b) : Ending.returned (.string ⟨a.toArray⟩) = .returned (.string ⟨b.toArray⟩) := by rw [h]
theorem own_from {w : World} {base e : Nat} {v : Value} {l : List UInt8} (h : OwnBytes w base e v l) : ∀ k, v.ownBlock = some k → base ≤ k := by
 intro k hk
 rcases h.2 with ⟨rfl, _⟩ | ⟨g, cap, cur, rfl, hg, _⟩
 ·cases hk
 ·cases hk; exact hg
theorem info_u8 : (Try.prog.info? 5).map (fun i => (i.zero, i.size, i.bytes)) = some (some (.int .u8 0), 1, 1) := by kernel_rfl
set_option maxHeartbeats 1000000 in
theorem show_page (s : ByteArray) (hs : s.size ≤ 1048576) (w : World) :
  Calls Try.prog 21 #[.string s] w fun e w' => e = .returned (.string ⟨(showL s.data.toList).toArray⟩) ∧ Below w.heap.size w w' := by
 obtain ⟨i0, hi, hz0, hz1, hz2⟩ := info_parts info_u8
 obtain ⟨B, hB⟩ : ∃ B, w.heap.size = B := ⟨_, rfl⟩
 have hB' : B ≤ w.heap.size := by omega
 rw [hB]
 clear hB
 go_enter Try.func21, Try.ntmps21
 go_wp2
 go_loopw [3, 4] (fun v i wr => ∃ j : Nat, j ≤ s.size ∧ i = .int .i64 j ∧ OwnBytes wr B 5 v (showL (s.data.toList.take j)) ∧ Below B w wr) (fun _ i _ => s.size - (intOf i).toNat)
 case atStart => exact ⟨0, Nat.zero_le _, rfl, OwnBytes.nil _ _ _, Below.refl _ _⟩
 case round =>
  obtain ⟨j, hj, rfl, hown, hb⟩ := hrel
  have hsz := hb.size
  by_cases hlt : j < s.size
  ·have hc1 : 0 ≤ (s[j].toNat : Int) := by omega
   have hc2 : (s[j].toNat : Int) ≤ 9223372036854775807 := by have := s[j].toNat_lt; omega
   have hst := showL_take s.data.toList j hlt
   have T := Lib.hid hst
   have hln : (showL (s.data.toList.take j)).length ≤ 8388608 := by rw [showL_length, List.length_take]; omega
   clear hst
   go_wp2_with (first
    | (go_at_call 30; refine (row_page _ _ hc1 hc2 (by omega) (by omega) _).mono ?_; rintro e w' ⟨rfl, rfl⟩)
    | (at_builtin; refine wp_append_text rfl rfl Try.underlying61 Try.underlying9 hi hz0 hz1 hz2 rfl hown rfl ?c1 ?c2 ?c3; (case c1 => (simp only [rowOf_length]; omega)); (case c2 => omega); intro v1 w1 hown1 hgrow))
   go_roundw
   case rel => exact ⟨j + 1, by omega, by go_num, by rw [T.out]; exact hown1, hb.grown hgrow (by omega) (own_from hown)⟩
   case measure => simp [intOf]; omega
  ·obtain rfl : j = s.size := by omega
   have ht := OwnBytes.text Try.underlying61 Try.underlying5 Try.underlying9 hown
   go_wp2
   go_ret
   exact ⟨ret_text (by rw [List.take_of_length_le (by exact Nat.le_refl _)]), hb⟩
set_option maxHeartbeats 400000 in
theorem number_page (s : ByteArray) (hs : s.size ≤ 32) (hr : isRow s.data.toList = true) (w : World) :
  Calls Try.prog 32 #[.string s] w fun e w' => e = .returned (.int .i64 (num s.data.toList)) ∧ w = w' := by
 have hbits : ∀ j, j ≤ s.size → num (s.data.toList.take j) ≤ 4294967296 := fun j hj => by
  have h1 := num_lt s.data.toList hr j hj
  have h2 : 2 ^ j ≤ 2 ^ 32 := Nat.pow_le_pow_right (by omega) (by omega : j ≤ 32)
  omega
 have R := Lib.hid hr
 have HB := Lib.hid hbits
 clear hr hbits
 go_enter Try.func32, Try.ntmps32
 go_wp2
 go_loop [3, 4] (fun n i => ∃ j y : Nat, j ≤ s.size ∧ i = .int .i64 j ∧ n = .int .i64 y ∧ num (s.data.toList.take j) = y) (fun _ i => s.size - (intOf i).toNat)
 case atStart => exact ⟨0, 0, Nat.zero_le _, rfl, rfl, rfl⟩
 case round =>
  obtain ⟨j, y, hj, rfl, rfl, hy⟩ := hrel
  have hb := HB.out j hj
  rw [hy] at hb
  have Y := Lib.hid hy
  clear hy
  by_cases hlt : j < s.size
  ·have hc := isRow_get s.data.toList j hlt R.out
   have hc1 : 48 ≤ (s[j].toNat : Int) := by have : s.data.toList[j] = s[j] := rfl; rw [this] at hc; omega
   have hc2 : (s[j].toNat : Int) ≤ 49 := by have : s.data.toList[j] = s[j] := rfl; rw [this] at hc; omega
   have hst : num (s.data.toList.take (j + 1)) = 2 * num (s.data.toList.take j) + (s[j].toNat - 48) := num_take s.data.toList j hlt
   rw [Y.out] at hst
   have S := Lib.hid hst
   clear hst hc
   go_wp2
   go_round
   case rel => exact ⟨j + 1, 2 * y + (s[j].toNat - 48), by omega, by go_num, by go_num, S.out⟩
   case measure => simp [intOf]; omega
  ·obtain rfl : j = s.size := by omega
   go_wp2
   go_ret
   exact ⟨ret_int (by rw [← Y.out, List.take_of_length_le (by exact Nat.le_refl _)]), rfl⟩
end Go.Proofs.Ytgbnpmpkfkijdaa

namespace Go.Proofs.Ytgbnpmpkfkijdaa
open Go.RowKit
theorem shr_one (x : Int) : bits .and .i64 x 1 = x % 2 := and_low x 1 (by omega)
theorem digit_byte (y : Nat) : (((digit y).toNat : Nat) : Int) = 48 + (y : Int) % 2 := by
 have h : y % 2 = 0 ∨ y % 2 = 1 := by omega
 unfold digit
 rcases h with h | h
 ·rw [if_pos h]; have : ((48 : UInt8).toNat : Int) = 48 := rfl; omega
 ·rw [if_neg (by omega)]; have : ((49 : UInt8).toNat : Int) = 49 := rfl; omega
theorem digit_cell (v k : Nat) : (48 + bits .and .i64 ((v : Int) / 2 ^ k) 1) % 256 = (((digit (v / 2 ^ k)).toNat : Nat) : Int) := by
 rw [shr_one, digit_byte]
 have e : (((v / 2 ^ k : Nat)) : Int) = (v : Int) / 2 ^ k := by simp
 rw [e]
 omega
theorem rowOf_take (v : Nat) : ∀ (n j : Nat), j < n → (rowOf v n).take (j + 1) = (rowOf v n).take j ++ [digit (v / 2 ^ (n - 1 - j))]
 | 0, j, h => by omega
 | n + 1, 0, _ => by simp [rowOf]
 | n + 1, j + 1, h => by
  have ih := rowOf_take v n j (by omega)
  rw [rowOf, List.take_succ_cons, List.take_succ_cons, ih, show n + 1 - 1 - (j + 1) = n - 1 - j by omega]
  rfl
set_option maxRecDepth 100000 in
set_option maxHeartbeats 1000000 in
theorem digits_code (v n : Int) (sv : Value) (l : List UInt8) (B : Nat) (w : World) (h1 : 0 ≤ v) (h2 : v ≤ 9223372036854775807) (h3 : 0 ≤ n) (h4 : n ≤ 32)
  (hown : OwnBytes w B 5 sv l) (hl : l.length ≤ 1073741824) (hB : B ≤ w.heap.size) :
  Calls Try.prog 45 #[sv, .int .i64 v, .int .i64 n] w fun e w' => ∃ sv', e = .returned sv' ∧ OwnBytes w' B 5 sv' (l ++ rowOf v.toNat n.toNat) ∧ Below B w w' := by
 obtain ⟨i0, hi, hz0, hz1, hz2⟩ := info_parts info_u8
 obtain ⟨v, rfl⟩ := Int.eq_ofNat_of_zero_le h1
 obtain ⟨n, rfl⟩ := Int.eq_ofNat_of_zero_le h3
 simp only [Int.toNat_natCast]
 clear h1 h3
 go_enter Try.func45, Try.ntmps45
 go_wp2
 go_loopw [0, 7] (fun s p wr => ∃ j : Nat, j ≤ n ∧ p = .int .i64 ((n : Int) - 1 - j) ∧ OwnBytes wr B 5 s (l ++ (rowOf v n).take j) ∧ Below B w wr) (fun _ p _ => (intOf p + 1).toNat)
 case atStart => exact ⟨0, Nat.zero_le _, by simp, by simpa using hown, Below.refl _ _⟩
 case round =>
  obtain ⟨j, hj, rfl, hown1, hb⟩ := hrel
  have hsz := hb.size
  by_cases hlt : j < n
  ·have hp : 0 ≤ (n : Int) - 1 - j := by omega
   have hln : (l ++ (rowOf v n).take j).length ≤ 1073741824 + 32 := by rw [List.length_append, List.length_take, rowOf_length]; omega
   have hst := rowOf_take v n j hlt
   have T := Lib.hid hst
   clear hst
   go_wp2_with (at_builtin; refine wp_append_byte (b := digit (v / 2 ^ (n - 1 - j))) rfl rfl Try.underlying61 hi hz0 hz1 hz2 rfl (hown1.alloc _) rfl ?c1 ?c2 ?c3 ?_; (case c1 => (rw [digit_cell]; go_cell)); (case c2 => omega); (case c3 => (simp; omega)); intro v1 w1 hown2 hgrow)
   rw [List.append_assoc, ← T.out] at hown2
   go_roundw
   case rel => exact ⟨j + 1, by omega, by go_num, hown2, (hb.alloc (by omega) _).grown hgrow (by simp; omega) (own_from hown1)⟩
   case measure => simp [intOf]; omega
  ·obtain rfl : j = n := by omega
   have hp : ¬ 0 ≤ (j : Int) - 1 - j := by omega
   go_wp2
   go_ret
   exact ⟨_, rfl, by rwa [List.take_of_length_le (by rw [rowOf_length]; exact Nat.le_refl _)] at hown1, hb⟩
theorem fits_parts {v n : Int} (h : fitsIn v n = true) : 0 ≤ n ∧ n ≤ 32 ∧ 0 ≤ v ∧ v < 2 ^ n.toNat := by
 unfold fitsIn at h
 simpa using h
theorem over_zero (v n : Int) (h0 : 0 ≤ v) (h1 : v < 2 ^ n.toNat) : v / 2 ^ n.toNat = 0 := Int.ediv_eq_zero_of_lt h0 h1
set_option maxHeartbeats 1000000 in
theorem row_code (v n : Int) (w : World) (h2 : v ≤ 9223372036854775807) (hf : fitsIn v n = true) :
  Calls Try.prog 38 #[.int .i64 v, .int .i64 n] w fun e w' => e = .returned (.tuple #[.string ⟨(rowOf v.toNat n.toNat).toArray⟩, .int .i64 0]) ∧ Below w.heap.size w w' := by
 obtain ⟨n0, n1, v0, v1⟩ := fits_parts hf
 have hz := over_zero v n v0 v1
 have t1 : (v / 2 ^ n.toNat != 0) = false := by rw [hz]; rfl
 have t2 : decide (n < 0) = false := by simpa using n0
 have t3 : decide (32 < n) = false := by simpa using n1
 have t4 : decide (v < 0) = false := by simpa using v0
 clear hz hf v1
 go_enter Try.func38, Try.ntmps38
 go_wp2_with fail
 refine (digits_code _ _ _ [] w.heap.size _ v0 h2 n0 n1 (OwnBytes.nil _ _ _) (by simp) (by simp)).mono ?_
 rintro e w1 ⟨sv, rfl, hown, hb⟩
 rw [List.nil_append] at hown
 have ht := OwnBytes.text Try.underlying61 Try.underlying5 Try.underlying9 hown
 go_wp2
 go_ret2
 exact ⟨rfl, hb⟩
end Go.Proofs.Ytgbnpmpkfkijdaa
