/- Texts that SheetheadPuts's proof stands on, part 6 of 23. No condition of its own. -/
import Derived.Test.YtgbnpmpkfkijdaaSheetheadPutsMa
import Derived.Test.YtgbnpmpkfkijdaaSheetheadPutsMc
import Derived.Test.YtgbnpmpkfkijdaaSheetheadPutsMd
import Derived.Test.YtgbnpmpkfkijdaaSheetheadPutsMe
namespace Go.Proofs.Ytgbnpmpkfkijdaa
open Go.RowKit
def rdCells (s : ByteArray) (p : Nat) : List Value := [.string s, .int .i64 (p : Int)]
def rdObj (s : ByteArray) (p : Nat) : Obj := .cells (rdCells s p).toArray 60 (0, 0)
def IsRd (w : World) (b : Nat) (s : ByteArray) (p : Nat) : Prop := w.heap[b]? = some (rdObj s p) ∧ p ≤ 8 * s.size ∧ s.size ≤ 140737488355328
theorem IsRd.cells {w : World} {b : Nat} {s : ByteArray} {p : Nat} (h : IsRd w b s p) : w.cell? ⟨b, 0, none⟩ = some (.string s) ∧ w.cell? ⟨b, 1, none⟩ = some (.int .i64 (p : Int)) :=
 ⟨part_cells h.1 rfl, part_cells h.1 rfl⟩
theorem IsRd.lt {w : World} {b : Nat} {s : ByteArray} {p : Nat} (h : IsRd w b s p) : b < w.heap.size := (Array.getElem?_eq_some_iff.1 h.1).1
theorem IsRd.below {w w' : World} {b : Nat} {s : ByteArray} {p : Nat} (h : IsRd w b s p) (hb : Below w.heap.size w w') : IsRd w' b s p := ⟨by rw [hb.block b h.lt]; exact h.1, h.2⟩
theorem IsRd.grown {w w' : World} {b c : Nat} {s : ByteArray} {p : Nat} (h : IsRd w b s p) (hg : w.grownBy w' (some c)) (hne : b ≠ c) : IsRd w' b s p := ⟨by rw [hg.block b h.lt (by simpa using hne)]; exact h.1, h.2⟩
theorem IsRd.fresh {w : World} {b : Nat} {s : ByteArray} (hb : w.heap.size = b) (hs : s.size ≤ 140737488355328) : IsRd (w.alloc (rdObj s 0)) b s 0 := by
 subst hb
 exact ⟨heap_alloc_new w _, by omega, hs⟩
theorem IsRd.moved {w : World} {b : Nat} {s : ByteArray} {p : Nat} (h : IsRd w b s p) (q : Nat) (hq : q ≤ 8 * s.size) : IsRd (w.setCell ⟨b, 1, none⟩ (.int .i64 (q : Int))) b s q :=
 ⟨part_set (o := 1) _ h.1, hq, h.2.2⟩
set_option maxHeartbeats 1000000 in
theorem rnew_code (w : World) (s : ByteArray) : Calls Try.prog 13 #[.string s] w fun e w' => e = .returned (.pointer (some ⟨w.heap.size, 0, none⟩)) ∧ w.alloc (rdObj s 0) = w' := by
 go_enter Try.func13, Try.ntmps13
 go_wp2
 go_ret
 exact ⟨rfl, rfl⟩
theorem or_byte (y c : Nat) (h : c < 256) (hy : y < 4294967296) : bits .or .i64 ((y : Int) * 256) (c : Int) = ((256 * y + c : Nat) : Int) := by
 have hor := Nat.two_pow_add_eq_or_of_lt (i := 8) (b := c) (by omega) y
 have e1 : ((y : Int) * 256) = ((256 * y : Nat) : Int) := by omega
 rw [e1]
 show IntKind.i64.wrap ((BitVec.ofInt 64 ((256 * y : Nat) : Int) ||| BitVec.ofInt 64 (c : Int)).toNat : Int) = _
 rw [BitVec.ofInt_natCast, BitVec.ofInt_natCast, BitVec.toNat_or, BitVec.toNat_ofNat, BitVec.toNat_ofNat, Nat.mod_eq_of_lt (by omega), Nat.mod_eq_of_lt (by omega)]
 have e2 : 256 * y ||| c = 256 * y + c := by
  have e : (2 : Nat) ^ 8 = 256 := rfl
  rw [e] at hor
  exact hor.symm
 rw [e2, IntKind.wrap_i64]
 omega
theorem masked (y k n : Nat) (h : n ≤ 32) : bits .and .i64 ((y : Int) / 2 ^ k) (wrap64 (wrap64 (2 ^ n) - 1)) = ((y / 2 ^ k % 2 ^ n : Nat) : Int) := by
 obtain ⟨h1, h2⟩ := pow_most n h
 have e1 : wrap64 ((2 : Int) ^ n) = 2 ^ n := by unfold wrap64; omega
 have e2 : wrap64 ((2 : Int) ^ n - 1) = 2 ^ n - 1 := by unfold wrap64; omega
 rw [e1, e2, and_low _ n (by omega)]
 simp
set_option maxHeartbeats 1000000 in
theorem number_code (w : World) (b : Nat) (s : ByteArray) (p : Nat) (ni : Int) (hr : IsRd w b s p) (h1 : 0 ≤ ni) (h2 : ni ≤ 32) (h3 : ni ≤ 8 * (s.size : Int) - p) :
  Calls Try.prog 50 #[.pointer (some ⟨b, 0, none⟩), .int .i64 ni] w fun e w' => e = .returned (.int .i64 ((tell s.data.toList p ni.toNat : Nat) : Int)) ∧ Below w.heap.size w w' := by
 obtain ⟨n, rfl⟩ := Int.eq_ofNat_of_zero_le h1
 simp only [Int.toNat_natCast]
 obtain ⟨c0, c1⟩ := hr.cells
 obtain ⟨_, hp, hs⟩ := hr
 have n2 : n ≤ 32 := by omega
 have n3 : p + n ≤ 8 * s.size := by omega
 clear h1 h2 h3
 go_enter Try.func50, Try.ntmps50
 go_wp2
 go_region
 obtain ⟨f, k, hf, hk⟩ : ∃ f k, p / 8 = f ∧ (p + n + 7) / 8 = f + k := ⟨p / 8, (p + n + 7) / 8 - p / 8, rfl, by omega⟩
 rw [show (p : Int) / 8 = (f : Int) by omega, show ((p : Int) + n + 7) / 8 = (f : Int) + k by omega]
 have hk5 : k ≤ 5 := by omega
 have hfk : f + k ≤ s.size := by omega
 have hf8 : 8 * f ≤ p := by omega
 have hg8 : p + n ≤ 8 * (f + k) := by omega
 have hg9 : 8 * (f + k) ≤ p + n + 7 := by omega
 obtain ⟨l, hl⟩ : ∃ l, s.data.toList.drop f = l := ⟨_, rfl⟩
 have hll : k ≤ l.length := by rw [← hl, List.length_drop]; have : s.data.toList.length = s.size := rfl; omega
 have hget : ∀ j, (h : j < l.length) → (h2 : f + j < s.size) → l[j] = s[f + j] := by
  intro j h h2
  subst hl
  rw [List.getElem_drop]
  rfl
 have hfin : bnum (l.take k) / 2 ^ (8 * (f + k) - p - n) % 2 ^ n = tell s.data.toList p n := by
  rw [← hl]
  exact tell_bytes _ f k p n hf8 hg8 hfk
 have hbn : ∀ j, j ≤ k → bnum (l.take j) < 256 ^ j := fun j hj => bnum_lt _ _ (by rw [List.length_take]; omega)
 have G := Lib.hid hget
 have F := Lib.hid hfin
 have L := Lib.hid hl
 have BN := Lib.hid hbn
 have d0 : w.drew.cell? ⟨b, 0, none⟩ = some (.string s) := c0
 have d1 : w.drew.cell? ⟨b, 1, none⟩ = some (.int .i64 (p : Int)) := c1
 have hb1 : Below w.heap.size w w.drew := (Below.refl _ w).drew
 clear c0 c1 hl hget hfin hbn hf hk
 generalize w.drew = w1 at d0 d1 hb1 ⊢
 go_wp2
 go_loop [7, 25] (fun x i => ∃ j y : Nat, j ≤ k ∧ i = .int .i64 j ∧ x = .int .i64 y ∧ bnum (l.take j) = y) (fun _ i => k - (intOf i).toNat)
 case atStart => exact ⟨0, 0, Nat.zero_le _, rfl, rfl, rfl⟩
 case round =>
  obtain ⟨j, y, hj, rfl, rfl, hy⟩ := hrel
  have Y := Lib.hid hy
  have hyb := BN.out j hj
  rw [hy] at hyb
  clear hy
  by_cases hlt : j < k
  ·have hy4 : y < 4294967296 := by
    have : 256 ^ j ≤ 256 ^ 4 := Nat.pow_le_pow_right (by omega) (by omega)
    omega
   have hfj : f + j < s.size := by omega
   have hg := G.out j (by omega) hfj
   have hst := bnum_take l j (by omega)
   rw [Y.out, hg] at hst
   have hc := s[f + j].toNat_lt
   have ho := or_byte y s[f + j].toNat hc hy4
   have ST := Lib.hid hst
   have O := Lib.hid ho
   clear hst hg hyb ho
   go_wp2
   go_round
   case rel => exact ⟨j + 1, 256 * y + s[f + j].toNat, by omega, by go_num, by rw [O.out], ST.out⟩
   case measure => simp [intOf]; omega
  ·obtain rfl : j = k := by omega
   have hy5 : y < 1099511627776 := by
    have : 256 ^ j ≤ 256 ^ 5 := Nat.pow_le_pow_right (by omega) (by omega)
    omega
   clear hyb
   go_wp2
   go_region
   go_wp2
   go_ret
   refine ⟨ret_int ?_, hb1.drew⟩
   rw [masked _ _ _ n2, ← F.out, Y.out]
theorem left_code (w : World) (b : Nat) (s : ByteArray) (p : Nat) (hr : IsRd w b s p) :
  Calls Try.prog 49 #[.pointer (some ⟨b, 0, none⟩)] w fun e w' => e = .returned (.int .i64 (8 * (s.size : Int) - p)) ∧ Below w.heap.size w w' := by
 obtain ⟨c0, c1⟩ := hr.cells
 obtain ⟨_, hp, hs⟩ := hr
 have hb1 : Below w.heap.size w w.drew := (Below.refl _ w).drew
 go_enter Try.func49, Try.ntmps49
 go_wp2
 go_region
 go_wp2
 go_ret
 exact ⟨rfl, hb1⟩
theorem at_code (w : World) (b : Nat) (s : ByteArray) (p : Nat) (hr : IsRd w b s p) :
  Calls Try.prog 19 #[.pointer (some ⟨b, 0, none⟩)] w fun e w' => e = .returned (.int .i64 (p : Int)) ∧ w = w' := by
 obtain ⟨c0, c1⟩ := hr.cells
 go_enter Try.func19, Try.ntmps19
 go_wp2
 go_ret
 exact ⟨rfl, rfl⟩
theorem rtext_code (w : World) (b : Nat) (s : ByteArray) (p : Nat) (hr : IsRd w b s p) :
  Calls Try.prog 47 #[.pointer (some ⟨b, 0, none⟩)] w fun e w' => e = .returned (.string s) ∧ w = w' := by
 obtain ⟨c0, c1⟩ := hr.cells
 go_enter Try.func47, Try.ntmps47
 go_wp2
 go_ret
 exact ⟨rfl, rfl⟩
theorem ask_pair {l : List UInt8} {p : Nat} {n : Int} {v c : Int} (h : ask l p n = (v, c)) {k k' : IntKind} : Ending.returned (.tuple #[.int k v, .int k' c]) = .returned (.tuple #[.int k (ask l p n).1, .int k' (ask l p n).2]) := by rw [h]
set_option maxHeartbeats 1000000 in
theorem peek_code (w : World) (b : Nat) (s : ByteArray) (p : Nat) (n : Int) (hr : IsRd w b s p) :
  Calls Try.prog 48 #[.pointer (some ⟨b, 0, none⟩), .int .i64 n] w fun e w' => e = .returned (.tuple #[.int .i64 (ask s.data.toList p n).1, .int .i64 (ask s.data.toList p n).2]) ∧ Below w.heap.size w w' := by
 have hsl : s.data.toList.length = s.size := rfl
 by_cases h1 : n < 0
 ·have A := Lib.hid (ask_arg (l := s.data.toList) (p := p) (n := n) (.inl h1))
  go_enter Try.func48, Try.ntmps48
  go_wp2
  go_ret2
  exact ⟨ask_pair A.out, Below.refl _ _⟩
 ·by_cases h2 : 32 < n
  ·have A := Lib.hid (ask_arg (l := s.data.toList) (p := p) (n := n) (.inr h2))
   go_enter Try.func48, Try.ntmps48
   go_wp2
   go_ret2
   exact ⟨ask_pair A.out, Below.refl _ _⟩
  ·have d1 : decide (n < 0) = false := by simpa using h1
   have d2 : decide (32 < n) = false := by simpa using h2
   by_cases h3 : 8 * (s.size : Int) - p < n
   ·have A := Lib.hid (ask_short (l := s.data.toList) (p := p) (n := n) (by omega) (by rw [hsl]; exact h3))
    have d3 : decide (8 * (s.size : Int) - p < n) = true := by simpa using h3
    go_enter Try.func48, Try.ntmps48
    go_wp2_with fail
    refine (left_code _ _ _ _ hr).mono ?_
    rintro e w1 ⟨rfl, hb⟩
    go_wp2
    go_ret2
    exact ⟨ask_pair A.out, hb⟩
   ·have A := Lib.hid (ask_ok (l := s.data.toList) (p := p) (n := n) (by omega) (by rw [hsl]; omega))
    have d3 : decide (8 * (s.size : Int) - p < n) = false := by simpa using h3
    go_enter Try.func48, Try.ntmps48
    go_wp2_with fail
    refine (left_code _ _ _ _ hr).mono ?_
    rintro e w1 ⟨rfl, hb⟩
    have hr1 := hr.below hb
    have hz := hb.size
    go_wp2_with fail
    refine (number_code _ _ _ _ _ hr1 (by omega) (by omega) (by omega)).mono ?_
    rintro e w2 ⟨rfl, hb2⟩
    go_wp2
    go_ret2
    exact ⟨ask_pair A.out, hb.trans (hb2.mono hz)⟩
theorem ask_range (l : List UInt8) (p : Nat) (n : Int) : (ask l p n).2 = 1 ∨ (ask l p n).2 = 2 ∨ ((ask l p n).2 = 0 ∧ 0 ≤ n ∧ n ≤ 32 ∧ n ≤ 8 * (l.length : Int) - p) := by
 unfold ask
 split
 ·exact .inl rfl
 ·split
  ·exact .inr (.inl rfl)
  ·exact .inr (.inr ⟨rfl, by omega⟩)
set_option maxHeartbeats 1000000 in
theorem take_code (w : World) (b : Nat) (s : ByteArray) (p : Nat) (n : Int) (hr : IsRd w b s p) :
  Calls Try.prog 42 #[.pointer (some ⟨b, 0, none⟩), .int .i64 n] w fun e w' => e = .returned (.tuple #[.int .i64 (ask s.data.toList p n).1, .int .i64 (ask s.data.toList p n).2]) ∧ IsRd w' b s (askTo s.data.toList p n) ∧ w.grownBy w' (some b) := by
 have hrg := ask_range s.data.toList p n
 have hto : askTo s.data.toList p n = if (ask s.data.toList p n).2 = 0 then p + n.toNat else p := rfl
 have hsl : s.data.toList.length = s.size := rfl
 rw [hto]
 generalize hq : ask s.data.toList p n = q at hrg ⊢
 obtain ⟨v, c⟩ := q
 have Q := Lib.hid hq
 clear hq hto
 go_enter Try.func42, Try.ntmps42
 go_wp2_with fail
 refine (peek_code _ _ _ _ _ hr).mono ?_
 rintro e w1 ⟨rfl, hb⟩
 rw [Q.out]
 have hr1 := hr.below hb
 have hg1 : w.grownBy w1 (some b) := ⟨hb.os, hb.tape, hb.output, hb.size, fun k hk _ => hb.block k hk⟩
 by_cases h0 : c = 0
 ·subst h0
  have hn : 0 ≤ n ∧ n ≤ 32 ∧ n ≤ 8 * (s.size : Int) - p := by
   rcases hrg with h | h | h
   ·cases h
   ·cases h
   ·exact ⟨h.2.1, h.2.2.1, by rw [← hsl]; exact h.2.2.2⟩
  obtain ⟨n0, n1, n2⟩ := hn
  obtain ⟨c0, c1⟩ := hr1.cells
  have hfr := part_free (o := 1) hr1.1
  have hm := hr1.moved (p + n.toNat) (by omega)
  have hg2 := grownBy_setCell w1 ⟨b, 1, none⟩ (.int .i64 ((p + n.toNat : Nat) : Int))
  have hnn : ((p + n.toNat : Nat) : Int) = (p : Int) + n := by omega
  rw [hnn] at hm hg2
  have hps : p ≤ 1125899906842624 := by have := hr.2; omega
  clear hrg
  go_wp2
  go_ret2
  exact ⟨rfl, hm, grown_trans hg1 hg2⟩
 ·have d0 : (c == 0) = false := by rw [beq_eq_false_iff_ne]; exact h0
  go_wp2
  go_ret2
  exact ⟨rfl, hr1, hg1⟩
theorem gap_lt (p : Nat) : gap p < 8 := by unfold gap; omega
set_option maxHeartbeats 1000000 in
theorem seek_code (w : World) (b : Nat) (s : ByteArray) (p : Nat) (n : Int) (hr : IsRd w b s p) (h1 : 0 ≤ n) (h2 : n ≤ 8 * (s.size : Int)) :
  Calls Try.prog 15 #[.pointer (some ⟨b, 0, none⟩), .int .i64 n] w fun e w' => e = .returned (.int .i64 0) ∧ IsRd w' b s n.toNat ∧ w.grownBy w' (some b) := by
 obtain ⟨c0, c1⟩ := hr.cells
 have hs := hr.2.2
 have hfr := part_free (o := 1) hr.1
 have hm := hr.moved n.toNat (by omega)
 have hg := grownBy_setCell w ⟨b, 1, none⟩ (.int .i64 ((n.toNat : Nat) : Int))
 rw [show ((n.toNat : Nat) : Int) = n by omega] at hm hg
 have d1 : decide (n < 0) = false := by simpa using h1
 have d2 : decide (8 * (s.size : Int) < n) = false := by simpa using h2
 go_enter Try.func15, Try.ntmps15
 go_wp2
 go_ret
 exact ⟨rfl, hm, hg⟩
set_option maxHeartbeats 1000000 in
theorem seek_not (w : World) (b : Nat) (s : ByteArray) (p : Nat) (n : Int) (hr : IsRd w b s p) (h : n < 0 ∨ 8 * (s.size : Int) < n) :
  Calls Try.prog 15 #[.pointer (some ⟨b, 0, none⟩), .int .i64 n] w fun e w' => e = .returned (.int .i64 1) ∧ w = w' := by
 obtain ⟨c0, c1⟩ := hr.cells
 have hs := hr.2.2
 by_cases h1 : n < 0
 ·have d1 : decide (n < 0) = true := by simpa using h1
  go_enter Try.func15, Try.ntmps15
  go_wp2
  go_ret
  exact ⟨rfl, rfl⟩
 ·have d1 : decide (n < 0) = false := by simpa using h1
  have d2 : decide (8 * (s.size : Int) < n) = true := by simp; omega
  clear h
  go_enter Try.func15, Try.ntmps15
  go_wp2
  go_ret
  exact ⟨rfl, rfl⟩
end Go.Proofs.Ytgbnpmpkfkijdaa

namespace Go.Proofs.Ytgbnpmpkfkijdaa
open Go.RowKit
def markAt (l : List UInt8) (bit : Int) : Int × Int :=
 if bit < 0 ∨ 8 * (l.length : Int) < bit then (0, 1) else if 8 * (l.length : Int) - bit < 22 then (0, 2)
 else if tell l bit.toNat 22 / 32 = 1 then (((tell l bit.toNat 22 % 32 : Nat) : Int), 0) else (0, 4)
theorem mark_arg {l : List UInt8} {bit : Int} (h : bit < 0 ∨ 8 * (l.length : Int) < bit) : markAt l bit = (0, 1) := if_pos h
theorem mark_short {l : List UInt8} {p : Nat} (h : p ≤ 8 * l.length) (h2 : 8 * l.length < p + 22) : markAt l p = (0, 2) := by
 unfold markAt; rw [if_neg (by omega), if_pos (by omega)]
theorem mark_in {l : List UInt8} {p : Nat} (h : p + 22 ≤ 8 * l.length) : markAt l p = if tell l p 22 / 32 = 1 then (((tell l p 22 % 32 : Nat) : Int), 0) else (0, 4) := by
 unfold markAt; rw [if_neg (by omega), if_neg (by omega), Int.toNat_natCast]
def hit (l : List UInt8) (i : Nat) : Bool := (markAt l ((8 * i : Nat) : Int)).2 == 0 && ((markAt l ((8 * i : Nat) : Int)).1 == 0 || (markAt l ((8 * i : Nat) : Int)).1 == 31)
end Go.Proofs.Ytgbnpmpkfkijdaa

namespace Go.Proofs.Ytgbnpmpkfkijdaa
open Go.RowKit
def markRow (n : Nat) : List UInt8 := rowOf (32 + n) 22
theorem markRow_is (n : Nat) : rowOf (((32 + n : Nat) : Int)).toNat (22 : Int).toNat = markRow n := rfl
theorem markRow_length (n : Nat) : (markRow n).length = 22 := rowOf_length _ _
theorem markRow_row (n : Nat) : isRow (markRow n) = true := rowOf_row _ _
def behind (r : List UInt8) (n : Nat) : List UInt8 := r ++ List.replicate (gap r.length) 48 ++ markRow n
theorem behind_length (r : List UInt8) (n : Nat) : (behind r n).length = r.length + gap r.length + 22 := by
 unfold behind
 rw [List.length_append, List.length_append, List.length_replicate, markRow_length]
end Go.Proofs.Ytgbnpmpkfkijdaa

namespace Go.Proofs.Ytgbnpmpkfkijdaa
open Go.RowKit
structure Shd where
 ref : Int
 flags : Int
 fmt : Int
 inter : Bool
 quant : Int
 supp : List Int
def shdZ : Shd := ⟨0, 0, 0, false, 0, []⟩
def byteIn (b : Int) : Bool := decide (0 ≤ b ∧ b ≤ 255)
def shdMay (h : Shd) : Bool := decide (0 ≤ h.ref ∧ h.ref ≤ 255 ∧ 0 ≤ h.flags ∧ h.flags ≤ 7 ∧ 1 ≤ h.quant ∧ h.quant ≤ 31) && isFmt h.fmt && (decide (h.supp.length ≤ 8) && h.supp.all byteIn)
theorem shdMay_iff {h : Shd} : shdMay h = true ↔ (0 ≤ h.ref ∧ h.ref ≤ 255 ∧ 0 ≤ h.flags ∧ h.flags ≤ 7 ∧ 1 ≤ h.quant ∧ h.quant ≤ 31) ∧ (1 ≤ h.fmt ∧ h.fmt ≤ 6) ∧ h.supp.length ≤ 8 ∧ ∀ b ∈ h.supp, 0 ≤ b ∧ b ≤ 255 := by
 unfold shdMay byteIn isFmt
 simp only [Bool.and_eq_true, decide_eq_true_iff, List.all_eq_true]
 constructor
 ·rintro ⟨⟨a, b⟩, c, d⟩; exact ⟨a, b, c, d⟩
 ·rintro ⟨a, b, c, d⟩; exact ⟨⟨a, b⟩, c, d⟩
def suppL : List Int → List UInt8
 | [] => [48]
 | b :: l => 49 :: (rowOf b.toNat 8 ++ suppL l)
theorem suppL_length : ∀ l : List Int, (suppL l).length = 9 * l.length + 1
 | [] => rfl
 | b :: l => by
  rw [suppL, List.length_cons, List.length_append, rowOf_length, suppL_length l, List.length_cons]; omega
theorem suppL_row : ∀ l : List Int, isRow (suppL l) = true
 | [] => rfl
 | b :: l => by
  rw [suppL, show ((49 : UInt8) :: (rowOf b.toNat 8 ++ suppL l)) = [49] ++ (rowOf b.toNat 8 ++ suppL l) from rfl, isRow_append, isRow_append, rowOf_row, suppL_row l]; rfl
def bitL (b : Bool) : List UInt8 := rowOf (if b then 1 else 0) 1
def shdFix (h : Shd) : List UInt8 :=
 rowOf h.ref.toNat 8 ++ (rowOf 2 2 ++ (rowOf h.flags.toNat 3 ++ (rowOf h.fmt.toNat 3 ++ (bitL h.inter ++ (rowOf 0 4 ++ (rowOf h.quant.toNat 5 ++ rowOf 0 1))))))
def shdRow (h : Shd) : List UInt8 := shdFix h ++ suppL h.supp
theorem shdFix_length (h : Shd) : (shdFix h).length = 27 := by
 unfold shdFix bitL
 simp only [List.length_append, rowOf_length]
theorem shdFix_row (h : Shd) : isRow (shdFix h) = true := by
 unfold shdFix bitL
 simp only [isRow_append, rowOf_row, Bool.and_self]
theorem shdRow_length (h : Shd) : (shdRow h).length = 28 + 9 * h.supp.length := by
 unfold shdRow
 rw [List.length_append, shdFix_length, suppL_length]; omega
theorem shdRow_row (h : Shd) : isRow (shdRow h) = true := by
 unfold shdRow
 rw [isRow_append, shdFix_row, suppL_row]; rfl
def widS : Nat → Nat
 | 0 => 8
 | 1 => 2
 | 2 => 3
 | 3 => 3
 | 4 => 1
 | 5 => 4
 | 6 => 5
 | _ => 1
def offS : Nat → Nat
 | 0 => 0
 | j + 1 => offS j + widS j
def badS (j : Nat) (v : Nat) : Int :=
 if (j = 1 ∧ v ≠ 2) ∨ (j = 3 ∧ isFmt v = false) then 5 else if (j = 5 ∨ j = 7) ∧ v ≠ 0 then 6 else if j = 6 ∧ v = 0 then 9 else 0
def prtS (l : List UInt8) (p j : Nat) : Nat := tell l (p + offS j) (widS j)
def partS (l : List UInt8) (p j : Nat) : Int := if 8 * l.length < p + offS j + widS j then 2 else badS j (prtS l p j)
def upS (l : List UInt8) (p : Nat) : Nat → Int
 | 0 => 0
 | n + 1 => if upS l p n ≠ 0 then upS l p n else partS l p n
theorem upS_stay {l : List UInt8} {p n : Nat} (h : upS l p n ≠ 0) : upS l p (n + 1) = upS l p n := by
 rw [upS, if_pos h]
theorem upS_next {l : List UInt8} {p n : Nat} (h : upS l p n = 0) : upS l p (n + 1) = partS l p n := by
 rw [upS, if_neg (fun k => k h)]
theorem partS_short {l : List UInt8} {p j : Nat} (h : 8 * l.length < p + offS j + widS j) : partS l p j = 2 := if_pos h
theorem partS_in {l : List UInt8} {p j : Nat} (h : p + offS j + widS j ≤ 8 * l.length) : partS l p j = badS j (prtS l p j) := if_neg (by omega)
theorem upS_zero {l : List UInt8} {p : Nat} : ∀ {n : Nat}, upS l p n = 0 ↔ ∀ j, j < n → p + offS j + widS j ≤ 8 * l.length ∧ badS j (prtS l p j) = 0
 | 0 => ⟨fun _ j hj => absurd hj (Nat.not_lt_zero j), fun _ => rfl⟩
 | n + 1 => by
  constructor
  ·intro h
   by_cases h0 : upS l p n = 0
   ·rw [upS_next h0] at h
    intro j hj
    rcases (by omega : j < n ∨ j = n) with hj | rfl
    ·exact upS_zero.1 h0 j hj
    ·by_cases hs : 8 * l.length < p + offS j + widS j
     ·rw [partS_short hs] at h; cases h
     ·rw [partS_in (by omega)] at h; exact ⟨by omega, h⟩
   ·rw [upS_stay h0] at h
    exact absurd h h0
  ·intro h
   have h0 : upS l p n = 0 := upS_zero.2 fun j hj => h j (by omega)
   obtain ⟨h1, h2⟩ := h n (by omega)
   rw [upS_next h0, partS_in h1, h2]
def suppT (l : List UInt8) : Nat → Nat → List Int × Nat × Int
 | 0, p => if 8 * l.length < p + 1 then ([], 0, 2) else if tell l p 1 = 0 then ([], p + 1, 0) else ([], 0, 13)
 | k + 1, p => if 8 * l.length < p + 1 then ([], 0, 2) else if tell l p 1 = 0 then ([], p + 1, 0)
  else if 8 * l.length < p + 1 + 8 then ([], 0, 2) else (((tell l (p + 1) 8 : Nat) : Int) :: (suppT l k (p + 9)).1, (suppT l k (p + 9)).2)
theorem suppT_none {l : List UInt8} {p : Nat} (h : 8 * l.length < p + 1) : ∀ k, suppT l k p = ([], 0, 2)
 | 0 => by rw [suppT, if_pos h]
 | k + 1 => by rw [suppT, if_pos h]
theorem suppT_end {l : List UInt8} {p : Nat} (h : p + 1 ≤ 8 * l.length) (h0 : tell l p 1 = 0) : ∀ k, suppT l k p = ([], p + 1, 0)
 | 0 => by rw [suppT, if_neg (by omega), if_pos h0]
 | k + 1 => by rw [suppT, if_neg (by omega), if_pos h0]
theorem suppT_long {l : List UInt8} {p : Nat} (h : p + 1 ≤ 8 * l.length) (h0 : tell l p 1 ≠ 0) : suppT l 0 p = ([], 0, 13) := by
 rw [suppT, if_neg (by omega), if_neg h0]
theorem suppT_cut {l : List UInt8} {p k : Nat} (h : p + 1 ≤ 8 * l.length) (h0 : tell l p 1 ≠ 0) (h8 : 8 * l.length < p + 1 + 8) : suppT l (k + 1) p = ([], 0, 2) := by
 rw [suppT, if_neg (by omega), if_neg h0, if_pos h8]
theorem suppT_more {l : List UInt8} {p k : Nat} (h0 : tell l p 1 ≠ 0) (h8 : p + 1 + 8 ≤ 8 * l.length) : suppT l (k + 1) p = (((tell l (p + 1) 8 : Nat) : Int) :: (suppT l k (p + 9)).1, (suppT l k (p + 9)).2) := by
 rw [suppT, if_neg (by omega), if_neg h0, if_neg (by omega)]
def shdOf (l : List UInt8) (p : Nat) (s : List Int) : Shd := ⟨(prtS l p 0 : Nat), (prtS l p 2 : Nat), (prtS l p 3 : Nat), prtS l p 4 == 1, (prtS l p 6 : Nat), s⟩
def shMark (l : List UInt8) (p : Nat) : Int := if p % 8 ≠ 0 then 4 else if (markAt l p).2 ≠ 0 then (markAt l p).2 else if (markAt l p).1 ≠ 0 then 4 else 0
def shk (l : List UInt8) (p : Nat) : Shd × Nat × Int :=
 if shMark l p ≠ 0 then (shdZ, p, shMark l p) else if upS l (p + 22) 8 ≠ 0 then (shdZ, p, upS l (p + 22) 8)
 else if (suppT l 8 (p + 49)).2.2 ≠ 0 then (shdZ, p, (suppT l 8 (p + 49)).2.2) else (shdOf l (p + 22) (suppT l 8 (p + 49)).1, (suppT l 8 (p + 49)).2.1, 0)
theorem shk_mark {l : List UInt8} {p : Nat} (h : shMark l p ≠ 0) : shk l p = (shdZ, p, shMark l p) := if_pos h
theorem shk_part {l : List UInt8} {p : Nat} (h : shMark l p = 0) (h1 : upS l (p + 22) 8 ≠ 0) : shk l p = (shdZ, p, upS l (p + 22) 8) := by
 unfold shk; rw [if_neg (fun k => k h), if_pos h1]
theorem shk_supp {l : List UInt8} {p : Nat} (h : shMark l p = 0) (h1 : upS l (p + 22) 8 = 0) (h2 : (suppT l 8 (p + 49)).2.2 ≠ 0) : shk l p = (shdZ, p, (suppT l 8 (p + 49)).2.2) := by
 unfold shk; rw [if_neg (fun k => k h), if_neg (fun k => k h1), if_pos h2]
theorem shk_ok {l : List UInt8} {p : Nat} (h : shMark l p = 0) (h1 : upS l (p + 22) 8 = 0) (h2 : (suppT l 8 (p + 49)).2.2 = 0) : shk l p = (shdOf l (p + 22) (suppT l 8 (p + 49)).1, (suppT l 8 (p + 49)).2.1, 0) := by
 unfold shk; rw [if_neg (fun k => k h), if_neg (fun k => k h1), if_neg (fun k => k h2)]
theorem suppT_there {l : List UInt8} : ∀ (s : List Int) (k p q : Nat), s.length ≤ k → (∀ b ∈ s, 0 ≤ b ∧ b ≤ 255) → Seg (showL l) p q (suppL s) → suppT l k p = (s, q, 0)
 | [], k, p, q, _, _, h => by
  have h' : Seg (showL l) p q (rowOf 0 1) := h
  obtain ⟨h1, h2, h3⟩ := seg_tell h' (by decide)
  rw [suppT_end h3 h1, h2]
 | b :: s, k, p, q, hk, hb, h => by
  obtain ⟨k, rfl⟩ : ∃ j, k = j + 1 := ⟨k - 1, by simp only [List.length_cons] at hk; omega⟩
  have h' : Seg (showL l) p q (rowOf 1 1 ++ (rowOf b.toNat 8 ++ suppL s)) := h
  obtain ⟨m, g1, g2⟩ := h'.cut
  obtain ⟨m2, g3, g4⟩ := g2.cut
  have hb0 := hb b (List.mem_cons_self ..)
  obtain ⟨a1, a2, a3⟩ := seg_tell g1 (by decide)
  obtain ⟨b1, b2, b3⟩ := seg_tell g3 (by show b.toNat < 256; omega)
  subst a2 b2
  rw [suppT_more (by rw [a1]; decide) b3, b1, suppT_there s k (p + 9) q (by simp only [List.length_cons] at hk; omega) (fun x hx => hb x (List.mem_cons_of_mem _ hx)) g4]
  rw [show ((b.toNat : Nat) : Int) = b by omega]
theorem offS_eq : offS 0 = 0 ∧ offS 1 = 8 ∧ offS 2 = 10 ∧ offS 3 = 13 ∧ offS 4 = 16 ∧ offS 5 = 17 ∧ offS 6 = 21 ∧ offS 7 = 26 ∧ offS 8 = 27 := by decide
theorem shk_there {l : List UInt8} {p q : Nat} {h : Shd} (hp : p % 8 = 0) (hm : shdMay h = true) (hs : Seg (showL l) p q (markRow 0 ++ shdRow h)) : shk l p = (h, q, 0) := by
 obtain ⟨⟨r1, r2, f1, f2, q1, q2⟩, ⟨m1, m2⟩, hl, hb⟩ := shdMay_iff.1 hm
 unfold shdRow shdFix at hs
 simp only [List.append_assoc] at hs
 obtain ⟨p0, g0, hs⟩ := hs.cut
 obtain ⟨p1, g1, hs⟩ := hs.cut
 obtain ⟨p2, g2, hs⟩ := hs.cut
 obtain ⟨p3, g3, hs⟩ := hs.cut
 obtain ⟨p4, g4, hs⟩ := hs.cut
 obtain ⟨p5, g5, hs⟩ := hs.cut
 obtain ⟨p6, g6, hs⟩ := hs.cut
 obtain ⟨p7, g7, hs⟩ := hs.cut
 obtain ⟨p8, g8, hs⟩ := hs.cut
 have g0' : Seg (showL l) p p0 (rowOf 32 22) := g0
 have g5' : Seg (showL l) p4 p5 (rowOf (if h.inter then 1 else 0) 1) := g5
 obtain ⟨a0, e0, b0⟩ := seg_tell g0' (by decide)
 obtain ⟨a1, e1, b1⟩ := seg_tell g1 (by show h.ref.toNat < 256; omega)
 obtain ⟨a2, e2, b2⟩ := seg_tell g2 (by decide)
 obtain ⟨a3, e3, b3⟩ := seg_tell g3 (by show h.flags.toNat < 8; omega)
 obtain ⟨a4, e4, b4⟩ := seg_tell g4 (by show h.fmt.toNat < 8; omega)
 obtain ⟨a5, e5, b5⟩ := seg_tell g5' (by split <;> decide)
 obtain ⟨a6, e6, b6⟩ := seg_tell g6 (by decide)
 obtain ⟨a7, e7, b7⟩ := seg_tell g7 (by show h.quant.toNat < 32; omega)
 obtain ⟨a8, e8, b8⟩ := seg_tell g8 (by decide)
 subst e0 e1 e2 e3 e4 e5 e6 e7 e8
 have v0 : prtS l (p + 22) 0 = h.ref.toNat := a1
 have v1 : prtS l (p + 22) 1 = 2 := a2
 have v2 : prtS l (p + 22) 2 = h.flags.toNat := a3
 have v3 : prtS l (p + 22) 3 = h.fmt.toNat := a4
 have v4 : prtS l (p + 22) 4 = if h.inter then 1 else 0 := a5
 have v5 : prtS l (p + 22) 5 = 0 := a6
 have v6 : prtS l (p + 22) 6 = h.quant.toNat := a7
 have v7 : prtS l (p + 22) 7 = 0 := a8
 have hM : shMark l p = 0 := by
  have e : markAt l p = (0, 0) := by rw [mark_in b0, a0]; rfl
  unfold shMark
  rw [if_neg (by omega), e]
  rfl
 have hU : upS l (p + 22) 8 = 0 := upS_zero.2 fun j hj => by
  obtain ⟨o0, o1, o2, o3, o4, o5, o6, o7, o8⟩ := offS_eq
  rcases (by omega : j = 0 ∨ j = 1 ∨ j = 2 ∨ j = 3 ∨ j = 4 ∨ j = 5 ∨ j = 6 ∨ j = 7) with rfl | rfl | rfl | rfl | rfl | rfl | rfl | rfl
  ·exact ⟨b1, by unfold badS; simp⟩
  ·exact ⟨b2, by rw [v1]; rfl⟩
  ·exact ⟨b3, by unfold badS; simp⟩
  ·refine ⟨b4, ?_⟩
   rw [v3]
   unfold badS isFmt
   rw [if_neg (by simp; omega), if_neg (by simp), if_neg (by simp)]
  ·exact ⟨b5, by unfold badS; simp⟩
  ·exact ⟨b6, by rw [v5]; rfl⟩
  ·refine ⟨b7, ?_⟩
   rw [v6]
   unfold badS
   rw [if_neg (by simp), if_neg (by simp), if_neg (by omega)]
  ·exact ⟨b8, by rw [v7]; rfl⟩
 have hT : suppT l 8 (p + 49) = (h.supp, q, 0) := suppT_there h.supp 8 _ q hl hb hs
 rw [shk_ok hM hU (by rw [hT]), hT]
 unfold shdOf
 rw [v0, v2, v3, v4, v6]
 obtain ⟨ref, flags, fmt, inter, quant, supp⟩ := h
 simp only at *
 rw [show ((ref.toNat : Nat) : Int) = ref by omega, show ((flags.toNat : Nat) : Int) = flags by omega, show ((fmt.toNat : Nat) : Int) = fmt by omega, show ((quant.toNat : Nat) : Int) = quant by omega]
 cases inter <;> rfl
theorem shMark_zero {l : List UInt8} {p : Nat} (h : shMark l p = 0) : p % 8 = 0 ∧ p + 22 ≤ 8 * l.length ∧ tell l p 22 = 32 := by
 unfold shMark at h
 by_cases h8 : p % 8 = 0
 ·rw [if_neg (by omega)] at h
  by_cases h2 : (markAt l p).2 = 0
  ·rw [if_neg (fun k => k h2)] at h
   by_cases h1 : (markAt l p).1 = 0
   ·by_cases hp : p ≤ 8 * l.length
    ·by_cases hs : p + 22 ≤ 8 * l.length
     ·rw [mark_in hs] at h1 h2
      by_cases ht : tell l p 22 / 32 = 1
      ·rw [if_pos ht] at h1
       simp only at h1
       exact ⟨h8, hs, by omega⟩
      ·rw [if_neg ht] at h2
       exact absurd h2 (by decide)
     ·rw [mark_short hp (by omega)] at h2
      exact absurd h2 (by decide)
    ·rw [mark_arg (Or.inr (by omega))] at h2
     exact absurd h2 (by decide)
   ·rw [if_pos h1] at h
    cases h
  ·rw [if_pos h2] at h
   exact absurd h h2
 ·rw [if_pos h8] at h
  cases h
end Go.Proofs.Ytgbnpmpkfkijdaa
