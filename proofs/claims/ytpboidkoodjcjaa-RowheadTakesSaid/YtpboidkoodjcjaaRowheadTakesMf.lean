/- Texts that RowheadTakes's proof stands on, part 6 of 9. No condition of its own. -/
import Derived.Test.YtpboidkoodjcjaaRowheadTakesMa
import Derived.Test.YtpboidkoodjcjaaRowheadTakesMc
import Derived.Test.YtpboidkoodjcjaaRowheadTakesMd
import Derived.Test.YtpboidkoodjcjaaRowheadTakesMe
namespace Go.Proofs.Ytpboidkoodjcjaa
open Go.RowKit
def rdCells (s : ByteArray) (p : Nat) : List Value := [.string s, .int .i64 (p : Int)]
def rdObj (s : ByteArray) (p : Nat) : Obj := .cells (rdCells s p).toArray 55 (0, 0)
def IsRd (w : World) (b : Nat) (s : ByteArray) (p : Nat) : Prop := w.heap[b]? = some (rdObj s p) ∧ p ≤ 8 * s.size ∧ s.size ≤ 140737488355328
theorem IsRd.cells {w : World} {b : Nat} {s : ByteArray} {p : Nat} (h : IsRd w b s p) : w.cell? ⟨b, 0, none⟩ = some (.string s) ∧ w.cell? ⟨b, 1, none⟩ = some (.int .i64 (p : Int)) :=
 ⟨part_cells h.1 rfl, part_cells h.1 rfl⟩
theorem IsRd.lt {w : World} {b : Nat} {s : ByteArray} {p : Nat} (h : IsRd w b s p) : b < w.heap.size := (Array.getElem?_eq_some_iff.1 h.1).1
theorem IsRd.below {w w' : World} {b : Nat} {s : ByteArray} {p : Nat} (h : IsRd w b s p) (hb : Below w.heap.size w w') : IsRd w' b s p := ⟨by rw [hb.block b h.lt]; exact h.1, h.2⟩
theorem IsRd.grown {w w' : World} {b c : Nat} {s : ByteArray} {p : Nat} (h : IsRd w b s p) (hg : w.grownBy w' (some c)) (hne : b ≠ c) : IsRd w' b s p := ⟨by rw [hg.block b h.lt (by simpa using hne)]; exact h.1, h.2⟩
theorem IsRd.fresh {w : World} {b : Nat} {s : ByteArray} (hb : w.heap.size = b) (hs : s.size ≤ 140737488355328) : IsRd (w.alloc (rdObj s 0)) b s 0 := by
 subst hb
 exact ⟨heap_alloc_new w _, by omega, hs⟩
theorem IsRd.moved {w : World} {b : Nat} {s : ByteArray} {p : Nat} (h : IsRd w b s p) (q : Nat) (hq : q ≤ 8 * s.size) : IsRd (w.setCell ⟨b, 1, none⟩ (.int .i64 (q : Int))) b s q :=
 ⟨part_set (o := 1) _ h.1, hq, h.2.2⟩
set_option maxHeartbeats 1000000 in
theorem rnew_code (w : World) (s : ByteArray) : Calls Try.prog 12 #[.string s] w fun e w' => e = .returned (.pointer (some ⟨w.heap.size, 0, none⟩)) ∧ w.alloc (rdObj s 0) = w' := by
 go_enter Try.func12, Try.ntmps12
 go_wp2
 go_ret
 exact ⟨rfl, rfl⟩
theorem or_byte (y c : Nat) (h : c < 256) (hy : y < 4294967296) : bits .or .i64 ((y : Int) * 256) (c : Int) = ((256 * y + c : Nat) : Int) := by
 have hor := Nat.two_pow_add_eq_or_of_lt (i := 8) (b := c) (by omega) y
 have e1 : ((y : Int) * 256) = ((256 * y : Nat) : Int) := by omega
 rw [e1]
 show IntKind.i64.wrap ((BitVec.ofInt 64 ((256 * y : Nat) : Int) ||| BitVec.ofInt 64 (c : Int)).toNat : Int) = _
 rw [BitVec.ofInt_natCast, BitVec.ofInt_natCast, BitVec.toNat_or, BitVec.toNat_ofNat, BitVec.toNat_ofNat, Nat.mod_eq_of_lt (by omega), Nat.mod_eq_of_lt (by omega)]
 have e2 : 256 * y ||| c = 256 * y + c := by
  have e : (2 : Nat) ^ 8 = 256 := rfl
  rw [e] at hor
  exact hor.symm
 rw [e2, IntKind.wrap_i64]
 omega
theorem masked (y k n : Nat) (h : n ≤ 32) : bits .and .i64 ((y : Int) / 2 ^ k) (wrap64 (wrap64 (2 ^ n) - 1)) = ((y / 2 ^ k % 2 ^ n : Nat) : Int) := by
 obtain ⟨h1, h2⟩ := pow_most n h
 have e1 : wrap64 ((2 : Int) ^ n) = 2 ^ n := by unfold wrap64; omega
 have e2 : wrap64 ((2 : Int) ^ n - 1) = 2 ^ n - 1 := by unfold wrap64; omega
 rw [e1, e2, and_low _ n (by omega)]
 simp
set_option maxHeartbeats 1000000 in
theorem number_code (w : World) (b : Nat) (s : ByteArray) (p : Nat) (ni : Int) (hr : IsRd w b s p) (h1 : 0 ≤ ni) (h2 : ni ≤ 32) (h3 : ni ≤ 8 * (s.size : Int) - p) :
  Calls Try.prog 40 #[.pointer (some ⟨b, 0, none⟩), .int .i64 ni] w fun e w' => e = .returned (.int .i64 ((tell s.data.toList p ni.toNat : Nat) : Int)) ∧ Below w.heap.size w w' := by
 obtain ⟨n, rfl⟩ := Int.eq_ofNat_of_zero_le h1
 simp only [Int.toNat_natCast]
 obtain ⟨c0, c1⟩ := hr.cells
 obtain ⟨_, hp, hs⟩ := hr
 have n2 : n ≤ 32 := by omega
 have n3 : p + n ≤ 8 * s.size := by omega
 clear h1 h2 h3
 go_enter Try.func40, Try.ntmps40
 go_wp2
 go_region
 obtain ⟨f, k, hf, hk⟩ : ∃ f k, p / 8 = f ∧ (p + n + 7) / 8 = f + k := ⟨p / 8, (p + n + 7) / 8 - p / 8, rfl, by omega⟩
 rw [show (p : Int) / 8 = (f : Int) by omega, show ((p : Int) + n + 7) / 8 = (f : Int) + k by omega]
 have hk5 : k ≤ 5 := by omega
 have hfk : f + k ≤ s.size := by omega
 have hf8 : 8 * f ≤ p := by omega
 have hg8 : p + n ≤ 8 * (f + k) := by omega
 have hg9 : 8 * (f + k) ≤ p + n + 7 := by omega
 obtain ⟨l, hl⟩ : ∃ l, s.data.toList.drop f = l := ⟨_, rfl⟩
 have hll : k ≤ l.length := by rw [← hl, List.length_drop]; have : s.data.toList.length = s.size := rfl; omega
 have hget : ∀ j, (h : j < l.length) → (h2 : f + j < s.size) → l[j] = s[f + j] := by
  intro j h h2
  subst hl
  rw [List.getElem_drop]
  rfl
 have hfin : bnum (l.take k) / 2 ^ (8 * (f + k) - p - n) % 2 ^ n = tell s.data.toList p n := by
  rw [← hl]
  exact tell_bytes _ f k p n hf8 hg8 hfk
 have hbn : ∀ j, j ≤ k → bnum (l.take j) < 256 ^ j := fun j hj => bnum_lt _ _ (by rw [List.length_take]; omega)
 have G := Lib.hid hget
 have F := Lib.hid hfin
 have L := Lib.hid hl
 have BN := Lib.hid hbn
 have d0 : w.drew.cell? ⟨b, 0, none⟩ = some (.string s) := c0
 have d1 : w.drew.cell? ⟨b, 1, none⟩ = some (.int .i64 (p : Int)) := c1
 have hb1 : Below w.heap.size w w.drew := (Below.refl _ w).drew
 clear c0 c1 hl hget hfin hbn hf hk
 generalize w.drew = w1 at d0 d1 hb1 ⊢
 go_wp2
 go_loop [7, 25] (fun x i => ∃ j y : Nat, j ≤ k ∧ i = .int .i64 j ∧ x = .int .i64 y ∧ bnum (l.take j) = y) (fun _ i => k - (intOf i).toNat)
 case atStart => exact ⟨0, 0, Nat.zero_le _, rfl, rfl, rfl⟩
 case round =>
  obtain ⟨j, y, hj, rfl, rfl, hy⟩ := hrel
  have Y := Lib.hid hy
  have hyb := BN.out j hj
  rw [hy] at hyb
  clear hy
  by_cases hlt : j < k
  ·have hy4 : y < 4294967296 := by
    have : 256 ^ j ≤ 256 ^ 4 := Nat.pow_le_pow_right (by omega) (by omega)
    omega
   have hfj : f + j < s.size := by omega
   have hg := G.out j (by omega) hfj
   have hst := bnum_take l j (by omega)
   rw [Y.out, hg] at hst
   have hc := s[f + j].toNat_lt
   have ho := or_byte y s[f + j].toNat hc hy4
   have ST := Lib.hid hst
   have O := Lib.hid ho
   clear hst hg hyb ho
   go_wp2
   go_round
   case rel => exact ⟨j + 1, 256 * y + s[f + j].toNat, by omega, by go_num, by rw [O.out], ST.out⟩
   case measure => simp [intOf]; omega
  ·obtain rfl : j = k := by omega
   have hy5 : y < 1099511627776 := by
    have : 256 ^ j ≤ 256 ^ 5 := Nat.pow_le_pow_right (by omega) (by omega)
    omega
   clear hyb
   go_wp2
   go_region
   go_wp2
   go_ret
   refine ⟨ret_int ?_, hb1.drew⟩
   rw [masked _ _ _ n2, ← F.out, Y.out]
theorem left_code (w : World) (b : Nat) (s : ByteArray) (p : Nat) (hr : IsRd w b s p) :
  Calls Try.prog 42 #[.pointer (some ⟨b, 0, none⟩)] w fun e w' => e = .returned (.int .i64 (8 * (s.size : Int) - p)) ∧ Below w.heap.size w w' := by
 obtain ⟨c0, c1⟩ := hr.cells
 obtain ⟨_, hp, hs⟩ := hr
 have hb1 : Below w.heap.size w w.drew := (Below.refl _ w).drew
 go_enter Try.func42, Try.ntmps42
 go_wp2
 go_region
 go_wp2
 go_ret
 exact ⟨rfl, hb1⟩
theorem at_code (w : World) (b : Nat) (s : ByteArray) (p : Nat) (hr : IsRd w b s p) :
  Calls Try.prog 17 #[.pointer (some ⟨b, 0, none⟩)] w fun e w' => e = .returned (.int .i64 (p : Int)) ∧ w = w' := by
 obtain ⟨c0, c1⟩ := hr.cells
 go_enter Try.func17, Try.ntmps17
 go_wp2
 go_ret
 exact ⟨rfl, rfl⟩
theorem rtext_code (w : World) (b : Nat) (s : ByteArray) (p : Nat) (hr : IsRd w b s p) :
  Calls Try.prog 34 #[.pointer (some ⟨b, 0, none⟩)] w fun e w' => e = .returned (.string s) ∧ w = w' := by
 obtain ⟨c0, c1⟩ := hr.cells
 go_enter Try.func34, Try.ntmps34
 go_wp2
 go_ret
 exact ⟨rfl, rfl⟩
theorem ask_pair {l : List UInt8} {p : Nat} {n : Int} {v c : Int} (h : ask l p n = (v, c)) {k k' : IntKind} : Ending.returned (.tuple #[.int k v, .int k' c]) = .returned (.tuple #[.int k (ask l p n).1, .int k' (ask l p n).2]) := by rw [h]
set_option maxHeartbeats 1000000 in
theorem peek_code (w : World) (b : Nat) (s : ByteArray) (p : Nat) (n : Int) (hr : IsRd w b s p) :
  Calls Try.prog 41 #[.pointer (some ⟨b, 0, none⟩), .int .i64 n] w fun e w' => e = .returned (.tuple #[.int .i64 (ask s.data.toList p n).1, .int .i64 (ask s.data.toList p n).2]) ∧ Below w.heap.size w w' := by
 have hsl : s.data.toList.length = s.size := rfl
 by_cases h1 : n < 0
 ·have A := Lib.hid (ask_arg (l := s.data.toList) (p := p) (n := n) (.inl h1))
  go_enter Try.func41, Try.ntmps41
  go_wp2
  go_ret2
  exact ⟨ask_pair A.out, Below.refl _ _⟩
 ·by_cases h2 : 32 < n
  ·have A := Lib.hid (ask_arg (l := s.data.toList) (p := p) (n := n) (.inr h2))
   go_enter Try.func41, Try.ntmps41
   go_wp2
   go_ret2
   exact ⟨ask_pair A.out, Below.refl _ _⟩
  ·have d1 : decide (n < 0) = false := by simpa using h1
   have d2 : decide (32 < n) = false := by simpa using h2
   by_cases h3 : 8 * (s.size : Int) - p < n
   ·have A := Lib.hid (ask_short (l := s.data.toList) (p := p) (n := n) (by omega) (by rw [hsl]; exact h3))
    have d3 : decide (8 * (s.size : Int) - p < n) = true := by simpa using h3
    go_enter Try.func41, Try.ntmps41
    go_wp2_with fail
    refine (left_code _ _ _ _ hr).mono ?_
    rintro e w1 ⟨rfl, hb⟩
    go_wp2
    go_ret2
    exact ⟨ask_pair A.out, hb⟩
   ·have A := Lib.hid (ask_ok (l := s.data.toList) (p := p) (n := n) (by omega) (by rw [hsl]; omega))
    have d3 : decide (8 * (s.size : Int) - p < n) = false := by simpa using h3
    go_enter Try.func41, Try.ntmps41
    go_wp2_with fail
    refine (left_code _ _ _ _ hr).mono ?_
    rintro e w1 ⟨rfl, hb⟩
    have hr1 := hr.below hb
    have hz := hb.size
    go_wp2_with fail
    refine (number_code _ _ _ _ _ hr1 (by omega) (by omega) (by omega)).mono ?_
    rintro e w2 ⟨rfl, hb2⟩
    go_wp2
    go_ret2
    exact ⟨ask_pair A.out, hb.trans (hb2.mono hz)⟩
theorem ask_range (l : List UInt8) (p : Nat) (n : Int) : (ask l p n).2 = 1 ∨ (ask l p n).2 = 2 ∨ ((ask l p n).2 = 0 ∧ 0 ≤ n ∧ n ≤ 32 ∧ n ≤ 8 * (l.length : Int) - p) := by
 unfold ask
 split
 ·exact .inl rfl
 ·split
  ·exact .inr (.inl rfl)
  ·exact .inr (.inr ⟨rfl, by omega⟩)
set_option maxHeartbeats 1000000 in
theorem take_code (w : World) (b : Nat) (s : ByteArray) (p : Nat) (n : Int) (hr : IsRd w b s p) :
  Calls Try.prog 36 #[.pointer (some ⟨b, 0, none⟩), .int .i64 n] w fun e w' => e = .returned (.tuple #[.int .i64 (ask s.data.toList p n).1, .int .i64 (ask s.data.toList p n).2]) ∧ IsRd w' b s (askTo s.data.toList p n) ∧ w.grownBy w' (some b) := by
 have hrg := ask_range s.data.toList p n
 have hto : askTo s.data.toList p n = if (ask s.data.toList p n).2 = 0 then p + n.toNat else p := rfl
 have hsl : s.data.toList.length = s.size := rfl
 rw [hto]
 generalize hq : ask s.data.toList p n = q at hrg ⊢
 obtain ⟨v, c⟩ := q
 have Q := Lib.hid hq
 clear hq hto
 go_enter Try.func36, Try.ntmps36
 go_wp2_with fail
 refine (peek_code _ _ _ _ _ hr).mono ?_
 rintro e w1 ⟨rfl, hb⟩
 rw [Q.out]
 have hr1 := hr.below hb
 have hg1 : w.grownBy w1 (some b) := ⟨hb.os, hb.tape, hb.output, hb.size, fun k hk _ => hb.block k hk⟩
 by_cases h0 : c = 0
 ·subst h0
  have hn : 0 ≤ n ∧ n ≤ 32 ∧ n ≤ 8 * (s.size : Int) - p := by
   rcases hrg with h | h | h
   ·cases h
   ·cases h
   ·exact ⟨h.2.1, h.2.2.1, by rw [← hsl]; exact h.2.2.2⟩
  obtain ⟨n0, n1, n2⟩ := hn
  obtain ⟨c0, c1⟩ := hr1.cells
  have hfr := part_free (o := 1) hr1.1
  have hm := hr1.moved (p + n.toNat) (by omega)
  have hg2 := grownBy_setCell w1 ⟨b, 1, none⟩ (.int .i64 ((p + n.toNat : Nat) : Int))
  have hnn : ((p + n.toNat : Nat) : Int) = (p : Int) + n := by omega
  rw [hnn] at hm hg2
  have hps : p ≤ 1125899906842624 := by have := hr.2; omega
  clear hrg
  go_wp2
  go_ret2
  exact ⟨rfl, hm, grown_trans hg1 hg2⟩
 ·have d0 : (c == 0) = false := by rw [beq_eq_false_iff_ne]; exact h0
  go_wp2
  go_ret2
  exact ⟨rfl, hr1, hg1⟩
theorem fill_pair {l : List UInt8} {p : Nat} {v c : Int} (h : fillOf l p = (v, c)) {k k' : IntKind} : Ending.returned (.tuple #[.int k v, .int k' c]) = .returned (.tuple #[.int k (fillOf l p).1, .int k' (fillOf l p).2]) := by rw [h]
theorem gap_fits {p n : Nat} (h : p ≤ 8 * n) : p + gap p ≤ 8 * n := by unfold gap; omega
theorem gap_lt (p : Nat) : gap p < 8 := by unfold gap; omega
set_option maxHeartbeats 1000000 in
theorem rfill_code (w : World) (b : Nat) (s : ByteArray) (p : Nat) (hr : IsRd w b s p) :
  Calls Try.prog 35 #[.pointer (some ⟨b, 0, none⟩)] w fun e w' => e = .returned (.tuple #[.int .i64 (fillOf s.data.toList p).1, .int .i64 (fillOf s.data.toList p).2]) ∧ IsRd w' b s (fillTo s.data.toList p) ∧ w.grownBy w' (some b) := by
 obtain ⟨c0, c1⟩ := hr.cells
 have hp := hr.2.1
 have hs := hr.2.2
 have hgf := gap_fits hp
 obtain ⟨g, hg⟩ : ∃ g, gap p = g := ⟨_, rfl⟩
 have hg7 : g < 8 := by rw [← hg]; exact gap_lt p
 have eg : 7 - ((p : Int) + 7) % 8 = (g : Int) := by rw [← hg]; unfold gap; omega
 have hto : fillTo s.data.toList p = if tell s.data.toList p g = 0 then p + g else p := by unfold fillTo; rw [hg]
 have hof : fillOf s.data.toList p = if tell s.data.toList p g = 0 then ((g : Int), 0) else (0, 5) := by unfold fillOf; rw [hg]
 rw [hg] at hgf
 obtain ⟨q, hq⟩ : ∃ q, fillTo s.data.toList p = q := ⟨_, rfl⟩
 rw [hq]
 rw [hq] at hto
 have TO := Lib.hid hto
 have OF := Lib.hid hof
 have EG := Lib.hid eg
 clear hto hof eg hg hq
 go_enter Try.func35, Try.ntmps35
 go_wp2_with fail
 rw [EG.out]
 refine (number_code _ _ _ _ (g : Int) hr (by omega) (by omega) (by omega)).mono ?_
 rintro e w1 ⟨rfl, hb⟩
 rw [Int.toNat_natCast]
 have hr1 := hr.below hb
 have hg1 : w.grownBy w1 (some b) := ⟨hb.os, hb.tape, hb.output, hb.size, fun k hk _ => hb.block k hk⟩
 by_cases h0 : tell s.data.toList p g = 0
 ·have d0 : (((tell s.data.toList p g : Nat) : Int) != 0) = false := by rw [h0]; rfl
  obtain ⟨q0, q1⟩ := hr1.cells
  have hfr := part_free (o := 1) hr1.1
  have hm := hr1.moved (p + g) (by omega)
  have hg2 := grownBy_setCell w1 ⟨b, 1, none⟩ (.int .i64 ((p + g : Nat) : Int))
  rw [show ((p + g : Nat) : Int) = (p : Int) + g by omega] at hm hg2
  have A := Lib.hid (OF.out.trans (if_pos h0))
  obtain rfl : q = p + g := TO.out.trans (if_pos h0)
  clear TO
  clear h0 c0 c1
  go_wp2
  go_ret2
  exact ⟨fill_pair A.out, hm, grown_trans hg1 hg2⟩
 ·have d0 : (((tell s.data.toList p g : Nat) : Int) != 0) = true := by rw [bne_iff_ne]; omega
  have A := Lib.hid (OF.out.trans (if_neg h0))
  obtain rfl : q = p := TO.out.trans (if_neg h0)
  clear TO
  clear h0
  go_wp2
  go_ret2
  exact ⟨fill_pair A.out, hr1, hg1⟩
set_option maxHeartbeats 1000000 in
theorem seek_code (w : World) (b : Nat) (s : ByteArray) (p : Nat) (n : Int) (hr : IsRd w b s p) (h1 : 0 ≤ n) (h2 : n ≤ 8 * (s.size : Int)) :
  Calls Try.prog 14 #[.pointer (some ⟨b, 0, none⟩), .int .i64 n] w fun e w' => e = .returned (.int .i64 0) ∧ IsRd w' b s n.toNat ∧ w.grownBy w' (some b) := by
 obtain ⟨c0, c1⟩ := hr.cells
 have hs := hr.2.2
 have hfr := part_free (o := 1) hr.1
 have hm := hr.moved n.toNat (by omega)
 have hg := grownBy_setCell w ⟨b, 1, none⟩ (.int .i64 ((n.toNat : Nat) : Int))
 rw [show ((n.toNat : Nat) : Int) = n by omega] at hm hg
 have d1 : decide (n < 0) = false := by simpa using h1
 have d2 : decide (8 * (s.size : Int) < n) = false := by simpa using h2
 go_enter Try.func14, Try.ntmps14
 go_wp2
 go_ret
 exact ⟨rfl, hm, hg⟩
set_option maxHeartbeats 1000000 in
theorem seek_not (w : World) (b : Nat) (s : ByteArray) (p : Nat) (n : Int) (hr : IsRd w b s p) (h : n < 0 ∨ 8 * (s.size : Int) < n) :
  Calls Try.prog 14 #[.pointer (some ⟨b, 0, none⟩), .int .i64 n] w fun e w' => e = .returned (.int .i64 1) ∧ w = w' := by
 obtain ⟨c0, c1⟩ := hr.cells
 have hs := hr.2.2
 by_cases h1 : n < 0
 ·have d1 : decide (n < 0) = true := by simpa using h1
  go_enter Try.func14, Try.ntmps14
  go_wp2
  go_ret
  exact ⟨rfl, rfl⟩
 ·have d1 : decide (n < 0) = false := by simpa using h1
  have d2 : decide (8 * (s.size : Int) < n) = true := by simp; omega
  clear h
  go_enter Try.func14, Try.ntmps14
  go_wp2
  go_ret
  exact ⟨rfl, rfl⟩
end Go.Proofs.Ytpboidkoodjcjaa

namespace Go.Proofs.Ytpboidkoodjcjaa
open Go.RowKit
theorem show_size (s : ByteArray) : (⟨(showL s.data.toList).toArray⟩ : ByteArray).size = 8 * s.size := by rw [size_mk, showL_length]; rfl
theorem show_cut (s : ByteArray) (p n : Nat) : (⟨(showL s.data.toList).toArray⟩ : ByteArray).extract p (p + n) = ⟨(((showL s.data.toList).drop p).take n).toArray⟩ := by
 rw [bytes_extract, List.drop_take, show p + n - p = n by omega]
section
theorem num_zero_iff : ∀ l : List UInt8, isRow l = true → (num l = 0 ↔ ∀ i (h : i < l.length), l[i] = 48)
 | [], _ => ⟨fun _ i h => absurd h (Nat.not_lt_zero i), fun _ => by unfold num; rw [numFrom_nil]⟩
 | c :: l, h => by
  obtain ⟨hc, hl⟩ := isRow_head h
  rw [num_cons]
  have hp : 0 < 2 ^ l.length := Nat.two_pow_pos _
  have ih := num_zero_iff l hl
  constructor
  ·intro h0 i hi
   have h1 : (c.toNat - 48) * 2 ^ l.length = 0 := by omega
   have h2 : num l = 0 := by omega
   have h3 : c.toNat - 48 = 0 := by
    rcases Nat.mul_eq_zero.1 h1 with e | e
    ·exact e
    ·omega
   match i, hi with
   | 0, _ =>
    rcases hc with e | e
    ·exact e
    ·rw [e] at h3; cases h3
   | i + 1, hi => exact ih.1 h2 i (by simpa using hi)
  ·intro h0
   have e0 : c = 48 := h0 0 (by simp)
   have e1 : num l = 0 := ih.2 fun i hi => h0 (i + 1) (by simpa using hi)
   rw [e0, e1, show ((48 : UInt8).toNat - 48) = 0 from rfl, Nat.zero_mul]
theorem tell_noughts (l : List UInt8) (p n : Nat) (h : p + n ≤ 8 * l.length) : tell l p n = 0 ↔ ∀ i, i < n → (showL l)[p + i]? = some 48 := by
 have hr := showL_row l
 have hl := showL_length l
 unfold tell
 generalize showL l = S at hr hl
 rw [num_zero_iff _ (isRow_take _ _ (isRow_drop _ _ hr))]
 have hlen : ((S.drop p).take n).length = n := by rw [List.length_take, List.length_drop]; omega
 constructor
 ·intro h0 i hi
  have := h0 i (by omega)
  rw [List.getElem_take, List.getElem_drop] at this
  rw [List.getElem?_eq_getElem (by omega), this]
 ·intro h0 i hi
  have := h0 i (by omega)
  rw [List.getElem?_eq_getElem (by omega)] at this
  rw [List.getElem_take, List.getElem_drop]
  exact Option.some.inj this
end
end Go.Proofs.Ytpboidkoodjcjaa

namespace Go.Proofs.Ytpboidkoodjcjaa
open Go.RowKit
def markAt (l : List UInt8) (bit : Int) : Int × Int :=
 if bit < 0 ∨ 8 * (l.length : Int) < bit then (0, 1) else if 8 * (l.length : Int) - bit < 22 then (0, 2)
 else if tell l bit.toNat 22 / 32 = 1 then (((tell l bit.toNat 22 % 32 : Nat) : Int), 0) else (0, 4)
theorem mark_arg {l : List UInt8} {bit : Int} (h : bit < 0 ∨ 8 * (l.length : Int) < bit) : markAt l bit = (0, 1) := if_pos h
theorem mark_short {l : List UInt8} {p : Nat} (h : p ≤ 8 * l.length) (h2 : 8 * l.length < p + 22) : markAt l p = (0, 2) := by
 unfold markAt; rw [if_neg (by omega), if_pos (by omega)]
theorem mark_in {l : List UInt8} {p : Nat} (h : p + 22 ≤ 8 * l.length) : markAt l p = if tell l p 22 / 32 = 1 then (((tell l p 22 % 32 : Nat) : Int), 0) else (0, 4) := by
 unfold markAt; rw [if_neg (by omega), if_neg (by omega), Int.toNat_natCast]
def nextOf (l : List UInt8) (bit : Int) : Int × Bool :=
 if bit < 0 ∨ 8 * (l.length : Int) < bit then (0, false) else if tell l bit.toNat (gap bit.toNat) = 0 then
  ((markAt l ((bit.toNat + gap bit.toNat : Nat) : Int)).1, (markAt l ((bit.toNat + gap bit.toNat : Nat) : Int)).2 == 0) else (0, false)
theorem next_arg {l : List UInt8} {bit : Int} (h : bit < 0 ∨ 8 * (l.length : Int) < bit) : nextOf l bit = (0, false) := if_pos h
theorem next_in {l : List UInt8} {p : Nat} (h : p ≤ 8 * l.length) (h2 : tell l p (gap p) = 0) : nextOf l p = ((markAt l ((p + gap p : Nat) : Int)).1, (markAt l ((p + gap p : Nat) : Int)).2 == 0) := by
 unfold nextOf; rw [if_neg (by omega), Int.toNat_natCast, if_pos h2]
theorem next_not {l : List UInt8} {p : Nat} (h : p ≤ 8 * l.length) (h2 : tell l p (gap p) ≠ 0) : nextOf l p = (0, false) := by
 unfold nextOf; rw [if_neg (by omega), Int.toNat_natCast, if_neg h2]
theorem tell_more (l : List UInt8) (p m n : Nat) (h : p + m + n ≤ 8 * l.length) : tell l p (m + n) = tell l p m * 2 ^ n + tell l (p + m) n := by
 have hl := showL_length l
 unfold tell
 rw [List.take_add, num_append, List.drop_drop]
 congr 3
 rw [List.length_take, List.length_drop]
 omega
def hit (l : List UInt8) (i : Nat) : Bool := (markAt l ((8 * i : Nat) : Int)).2 == 0 && ((markAt l ((8 * i : Nat) : Int)).1 == 0 || (markAt l ((8 * i : Nat) : Int)).1 == 31)
end Go.Proofs.Ytpboidkoodjcjaa

namespace Go.Proofs.Ytpboidkoodjcjaa
open Go.RowKit
def markRow (n : Nat) : List UInt8 := rowOf (32 + n) 22
theorem markRow_is (n : Nat) : rowOf (((32 + n : Nat) : Int)).toNat (22 : Int).toNat = markRow n := rfl
theorem markRow_length (n : Nat) : (markRow n).length = 22 := rowOf_length _ _
def behind (r : List UInt8) (n : Nat) : List UInt8 := r ++ List.replicate (gap r.length) 48 ++ markRow n
theorem behind_length (r : List UInt8) (n : Nat) : (behind r n).length = r.length + gap r.length + 22 := by
 unfold behind
 rw [List.length_append, List.length_append, List.length_replicate, markRow_length]
end Go.Proofs.Ytpboidkoodjcjaa

namespace Go.Proofs.Ytpboidkoodjcjaa
open Go.RowKit
def headRow (id q : Nat) : List UInt8 := rowOf id 2 ++ rowOf q 5
def hdk (l : List UInt8) (p : Nat) (n : Int) : Int × Int × Nat × Int :=
 if (nextOf l p).2 = false then (0, 0, p, 4) else if (nextOf l p).1 ≠ n then (0, 0, p, 10)
 else if 8 * l.length < p + gap p + 22 + 7 then (0, 0, p, 2)
 else if tell l (p + gap p + 22 + 2) 5 = 0 then (0, 0, p, 9)
 else (((tell l (p + gap p + 22) 2 : Nat) : Int), ((tell l (p + gap p + 22 + 2) 5 : Nat) : Int), p + gap p + 22 + 7, 0)
theorem hdk_mark {l : List UInt8} {p : Nat} {n : Int} (h : (nextOf l p).2 = false) : hdk l p n = (0, 0, p, 4) := if_pos h
theorem hdk_order {l : List UInt8} {p : Nat} {n : Int} (h : (nextOf l p).2 = true) (h1 : (nextOf l p).1 ≠ n) : hdk l p n = (0, 0, p, 10) := by
 unfold hdk; rw [if_neg (by rw [h]; decide), if_pos h1]
theorem hdk_short {l : List UInt8} {p : Nat} {n : Int} (h : (nextOf l p).2 = true) (h1 : (nextOf l p).1 = n) (h2 : 8 * l.length < p + gap p + 22 + 7) : hdk l p n = (0, 0, p, 2) := by
 unfold hdk; rw [if_neg (by rw [h]; decide), if_neg (fun k => k h1), if_pos h2]
theorem hdk_quant {l : List UInt8} {p : Nat} {n : Int} (h : (nextOf l p).2 = true) (h1 : (nextOf l p).1 = n) (h2 : p + gap p + 22 + 7 ≤ 8 * l.length) (h3 : tell l (p + gap p + 22 + 2) 5 = 0) : hdk l p n = (0, 0, p, 9) := by
 unfold hdk; rw [if_neg (by rw [h]; decide), if_neg (fun k => k h1), if_neg (by omega), if_pos h3]
theorem hdk_ok {l : List UInt8} {p : Nat} {n : Int} (h : (nextOf l p).2 = true) (h1 : (nextOf l p).1 = n) (h2 : p + gap p + 22 + 7 ≤ 8 * l.length) (h3 : tell l (p + gap p + 22 + 2) 5 ≠ 0) :
  hdk l p n = (((tell l (p + gap p + 22) 2 : Nat) : Int), ((tell l (p + gap p + 22 + 2) 5 : Nat) : Int), p + gap p + 22 + 7, 0) := by
 unfold hdk; rw [if_neg (by rw [h]; decide), if_neg (fun k => k h1), if_neg (by omega), if_neg h3]
theorem next_inside {l : List UInt8} {p : Nat} (h : (nextOf l p).2 = true) : p + gap p + 22 ≤ 8 * l.length := by
 by_cases hp : p ≤ 8 * l.length
 ·by_cases h0 : tell l p (gap p) = 0
  ·rw [next_in hp h0] at h
   simp only [beq_iff_eq] at h
   by_cases hs : p + gap p + 22 ≤ 8 * l.length
   ·exact hs
   ·by_cases hq : p + gap p ≤ 8 * l.length
    ·rw [mark_short hq (by omega)] at h
     exact absurd h (by decide)
    ·rw [mark_arg (Or.inr (by omega))] at h
     exact absurd h (by decide)
  ·rw [next_not hp h0] at h
   exact absurd h (by decide)
 ·rw [next_arg (Or.inr (by omega))] at h
  exact absurd h (by decide)
end Go.Proofs.Ytpboidkoodjcjaa
