/- Texts that CelloutBack's proof stands on, part 5 of 45. No condition of its own. -/
import Derived.Test.YtekjgcchnmnplaaGreatDoorCelloutBackMa
import Derived.Test.YtekjgcchnmnplaaGreatDoorCelloutBackMc
import Derived.Test.YtekjgcchnmnplaaGreatDoorCelloutBackMd
namespace Go.Proofs.YtekjgcchnmnplaaGreatDoor
open Go.RowKit
def rdCells (s : ByteArray) (p : Nat) : List Value := [.string s, .int .i64 (p : Int)]
def rdObj (s : ByteArray) (p : Nat) : Obj := .cells (rdCells s p).toArray 60 (0, 0)
def IsRd (w : World) (b : Nat) (s : ByteArray) (p : Nat) : Prop := w.heap[b]? = some (rdObj s p) ∧ p ≤ 8 * s.size ∧ s.size ≤ 140737488355328
theorem IsRd.cells {w : World} {b : Nat} {s : ByteArray} {p : Nat} (h : IsRd w b s p) : w.cell? ⟨b, 0, none⟩ = some (.string s) ∧ w.cell? ⟨b, 1, none⟩ = some (.int .i64 (p : Int)) :=
 ⟨part_cells h.1 rfl, part_cells h.1 rfl⟩
theorem IsRd.lt {w : World} {b : Nat} {s : ByteArray} {p : Nat} (h : IsRd w b s p) : b < w.heap.size := (Array.getElem?_eq_some_iff.1 h.1).1
theorem IsRd.below {w w' : World} {b : Nat} {s : ByteArray} {p : Nat} (h : IsRd w b s p) (hb : Below w.heap.size w w') : IsRd w' b s p := ⟨by rw [hb.block b h.lt]; exact h.1, h.2⟩
theorem IsRd.grown {w w' : World} {b c : Nat} {s : ByteArray} {p : Nat} (h : IsRd w b s p) (hg : w.grownBy w' (some c)) (hne : b ≠ c) : IsRd w' b s p := ⟨by rw [hg.block b h.lt (by simpa using hne)]; exact h.1, h.2⟩
theorem IsRd.fresh {w : World} {b : Nat} {s : ByteArray} (hb : w.heap.size = b) (hs : s.size ≤ 140737488355328) : IsRd (w.alloc (rdObj s 0)) b s 0 := by
 subst hb
 exact ⟨heap_alloc_new w _, by omega, hs⟩
theorem IsRd.moved {w : World} {b : Nat} {s : ByteArray} {p : Nat} (h : IsRd w b s p) (q : Nat) (hq : q ≤ 8 * s.size) : IsRd (w.setCell ⟨b, 1, none⟩ (.int .i64 (q : Int))) b s q :=
 ⟨part_set (o := 1) _ h.1, hq, h.2.2⟩
set_option maxHeartbeats 1000000 in
theorem rnew_code (w : World) (s : ByteArray) : Calls Tryz.prog 12 #[.string s] w fun e w' => e = .returned (.pointer (some ⟨w.heap.size, 0, none⟩)) ∧ w.alloc (rdObj s 0) = w' := by
 go_enter Tryz.func12, Tryz.ntmps12
 go_wp2
 go_ret
 exact ⟨rfl, rfl⟩
theorem or_byte (y c : Nat) (h : c < 256) (hy : y < 4294967296) : bits .or .i64 ((y : Int) * 256) (c : Int) = ((256 * y + c : Nat) : Int) := by
 have hor := Nat.two_pow_add_eq_or_of_lt (i := 8) (b := c) (by omega) y
 have e1 : ((y : Int) * 256) = ((256 * y : Nat) : Int) := by omega
 rw [e1]
 show IntKind.i64.wrap ((BitVec.ofInt 64 ((256 * y : Nat) : Int) ||| BitVec.ofInt 64 (c : Int)).toNat : Int) = _
 rw [BitVec.ofInt_natCast, BitVec.ofInt_natCast, BitVec.toNat_or, BitVec.toNat_ofNat, BitVec.toNat_ofNat, Nat.mod_eq_of_lt (by omega), Nat.mod_eq_of_lt (by omega)]
 have e2 : 256 * y ||| c = 256 * y + c := by
  have e : (2 : Nat) ^ 8 = 256 := rfl
  rw [e] at hor
  exact hor.symm
 rw [e2, IntKind.wrap_i64]
 omega
theorem masked (y k n : Nat) (h : n ≤ 32) : bits .and .i64 ((y : Int) / 2 ^ k) (wrap64 (wrap64 (2 ^ n) - 1)) = ((y / 2 ^ k % 2 ^ n : Nat) : Int) := by
 obtain ⟨h1, h2⟩ := pow_most n h
 have e1 : wrap64 ((2 : Int) ^ n) = 2 ^ n := by unfold wrap64; omega
 have e2 : wrap64 ((2 : Int) ^ n - 1) = 2 ^ n - 1 := by unfold wrap64; omega
 rw [e1, e2, and_low _ n (by omega)]
 simp
set_option maxHeartbeats 1000000 in
theorem number_code (w : World) (b : Nat) (s : ByteArray) (p : Nat) (ni : Int) (hr : IsRd w b s p) (h1 : 0 ≤ ni) (h2 : ni ≤ 32) (h3 : ni ≤ 8 * (s.size : Int) - p) :
  Calls Tryz.prog 86 #[.pointer (some ⟨b, 0, none⟩), .int .i64 ni] w fun e w' => e = .returned (.int .i64 ((tell s.data.toList p ni.toNat : Nat) : Int)) ∧ Below w.heap.size w w' := by
 obtain ⟨n, rfl⟩ := Int.eq_ofNat_of_zero_le h1
 simp only [Int.toNat_natCast]
 obtain ⟨c0, c1⟩ := hr.cells
 obtain ⟨_, hp, hs⟩ := hr
 have n2 : n ≤ 32 := by omega
 have n3 : p + n ≤ 8 * s.size := by omega
 clear h1 h2 h3
 go_enter Tryz.func86, Tryz.ntmps86
 go_wp2
 go_region
 obtain ⟨f, k, hf, hk⟩ : ∃ f k, p / 8 = f ∧ (p + n + 7) / 8 = f + k := ⟨p / 8, (p + n + 7) / 8 - p / 8, rfl, by omega⟩
 rw [show (p : Int) / 8 = (f : Int) by omega, show ((p : Int) + n + 7) / 8 = (f : Int) + k by omega]
 have hk5 : k ≤ 5 := by omega
 have hfk : f + k ≤ s.size := by omega
 have hf8 : 8 * f ≤ p := by omega
 have hg8 : p + n ≤ 8 * (f + k) := by omega
 have hg9 : 8 * (f + k) ≤ p + n + 7 := by omega
 obtain ⟨l, hl⟩ : ∃ l, s.data.toList.drop f = l := ⟨_, rfl⟩
 have hll : k ≤ l.length := by rw [← hl, List.length_drop]; have : s.data.toList.length = s.size := rfl; omega
 have hget : ∀ j, (h : j < l.length) → (h2 : f + j < s.size) → l[j] = s[f + j] := by
  intro j h h2
  subst hl
  rw [List.getElem_drop]
  rfl
 have hfin : bnum (l.take k) / 2 ^ (8 * (f + k) - p - n) % 2 ^ n = tell s.data.toList p n := by
  rw [← hl]
  exact tell_bytes _ f k p n hf8 hg8 hfk
 have hbn : ∀ j, j ≤ k → bnum (l.take j) < 256 ^ j := fun j hj => bnum_lt _ _ (by rw [List.length_take]; omega)
 have G := Lib.hid hget
 have F := Lib.hid hfin
 have L := Lib.hid hl
 have BN := Lib.hid hbn
 have d0 : w.drew.cell? ⟨b, 0, none⟩ = some (.string s) := c0
 have d1 : w.drew.cell? ⟨b, 1, none⟩ = some (.int .i64 (p : Int)) := c1
 have hb1 : Below w.heap.size w w.drew := (Below.refl _ w).drew
 clear c0 c1 hl hget hfin hbn hf hk
 generalize w.drew = w1 at d0 d1 hb1 ⊢
 go_wp2
 go_loop [7, 25] (fun x i => ∃ j y : Nat, j ≤ k ∧ i = .int .i64 j ∧ x = .int .i64 y ∧ bnum (l.take j) = y) (fun _ i => k - (intOf i).toNat)
 case atStart => exact ⟨0, 0, Nat.zero_le _, rfl, rfl, rfl⟩
 case round =>
  obtain ⟨j, y, hj, rfl, rfl, hy⟩ := hrel
  have Y := Lib.hid hy
  have hyb := BN.out j hj
  rw [hy] at hyb
  clear hy
  by_cases hlt : j < k
  ·have hy4 : y < 4294967296 := by
    have : 256 ^ j ≤ 256 ^ 4 := Nat.pow_le_pow_right (by omega) (by omega)
    omega
   have hfj : f + j < s.size := by omega
   have hg := G.out j (by omega) hfj
   have hst := bnum_take l j (by omega)
   rw [Y.out, hg] at hst
   have hc := s[f + j].toNat_lt
   have ho := or_byte y s[f + j].toNat hc hy4
   have ST := Lib.hid hst
   have O := Lib.hid ho
   clear hst hg hyb ho
   go_wp2
   go_round
   case rel => exact ⟨j + 1, 256 * y + s[f + j].toNat, by omega, by go_num, by rw [O.out], ST.out⟩
   case measure => simp [intOf]; omega
  ·obtain rfl : j = k := by omega
   have hy5 : y < 1099511627776 := by
    have : 256 ^ j ≤ 256 ^ 5 := Nat.pow_le_pow_right (by omega) (by omega)
    omega
   clear hyb
   go_wp2
   go_region
   go_wp2
   go_ret
   refine ⟨ret_int ?_, hb1.drew⟩
   rw [masked _ _ _ n2, ← F.out, Y.out]
theorem left_code (w : World) (b : Nat) (s : ByteArray) (p : Nat) (hr : IsRd w b s p) :
  Calls Tryz.prog 85 #[.pointer (some ⟨b, 0, none⟩)] w fun e w' => e = .returned (.int .i64 (8 * (s.size : Int) - p)) ∧ Below w.heap.size w w' := by
 obtain ⟨c0, c1⟩ := hr.cells
 obtain ⟨_, hp, hs⟩ := hr
 have hb1 : Below w.heap.size w w.drew := (Below.refl _ w).drew
 go_enter Tryz.func85, Tryz.ntmps85
 go_wp2
 go_region
 go_wp2
 go_ret
 exact ⟨rfl, hb1⟩
theorem at_code (w : World) (b : Nat) (s : ByteArray) (p : Nat) (hr : IsRd w b s p) :
  Calls Tryz.prog 17 #[.pointer (some ⟨b, 0, none⟩)] w fun e w' => e = .returned (.int .i64 (p : Int)) ∧ w = w' := by
 obtain ⟨c0, c1⟩ := hr.cells
 go_enter Tryz.func17, Tryz.ntmps17
 go_wp2
 go_ret
 exact ⟨rfl, rfl⟩
theorem ask_pair {l : List UInt8} {p : Nat} {n : Int} {v c : Int} (h : ask l p n = (v, c)) {k k' : IntKind} : Ending.returned (.tuple #[.int k v, .int k' c]) = .returned (.tuple #[.int k (ask l p n).1, .int k' (ask l p n).2]) := by rw [h]
set_option maxHeartbeats 1000000 in
theorem peek_code (w : World) (b : Nat) (s : ByteArray) (p : Nat) (n : Int) (hr : IsRd w b s p) :
  Calls Tryz.prog 64 #[.pointer (some ⟨b, 0, none⟩), .int .i64 n] w fun e w' => e = .returned (.tuple #[.int .i64 (ask s.data.toList p n).1, .int .i64 (ask s.data.toList p n).2]) ∧ Below w.heap.size w w' := by
 have hsl : s.data.toList.length = s.size := rfl
 by_cases h1 : n < 0
 ·have A := Lib.hid (ask_arg (l := s.data.toList) (p := p) (n := n) (.inl h1))
  go_enter Tryz.func64, Tryz.ntmps64
  go_wp2
  go_ret2
  exact ⟨ask_pair A.out, Below.refl _ _⟩
 ·by_cases h2 : 32 < n
  ·have A := Lib.hid (ask_arg (l := s.data.toList) (p := p) (n := n) (.inr h2))
   go_enter Tryz.func64, Tryz.ntmps64
   go_wp2
   go_ret2
   exact ⟨ask_pair A.out, Below.refl _ _⟩
  ·have d1 : decide (n < 0) = false := by simpa using h1
   have d2 : decide (32 < n) = false := by simpa using h2
   by_cases h3 : 8 * (s.size : Int) - p < n
   ·have A := Lib.hid (ask_short (l := s.data.toList) (p := p) (n := n) (by omega) (by rw [hsl]; exact h3))
    have d3 : decide (8 * (s.size : Int) - p < n) = true := by simpa using h3
    go_enter Tryz.func64, Tryz.ntmps64
    go_wp2_with fail
    refine (left_code _ _ _ _ hr).mono ?_
    rintro e w1 ⟨rfl, hb⟩
    go_wp2
    go_ret2
    exact ⟨ask_pair A.out, hb⟩
   ·have A := Lib.hid (ask_ok (l := s.data.toList) (p := p) (n := n) (by omega) (by rw [hsl]; omega))
    have d3 : decide (8 * (s.size : Int) - p < n) = false := by simpa using h3
    go_enter Tryz.func64, Tryz.ntmps64
    go_wp2_with fail
    refine (left_code _ _ _ _ hr).mono ?_
    rintro e w1 ⟨rfl, hb⟩
    have hr1 := hr.below hb
    have hz := hb.size
    go_wp2_with fail
    refine (number_code _ _ _ _ _ hr1 (by omega) (by omega) (by omega)).mono ?_
    rintro e w2 ⟨rfl, hb2⟩
    go_wp2
    go_ret2
    exact ⟨ask_pair A.out, hb.trans (hb2.mono hz)⟩
theorem ask_range (l : List UInt8) (p : Nat) (n : Int) : (ask l p n).2 = 1 ∨ (ask l p n).2 = 2 ∨ ((ask l p n).2 = 0 ∧ 0 ≤ n ∧ n ≤ 32 ∧ n ≤ 8 * (l.length : Int) - p) := by
 unfold ask
 split
 ·exact .inl rfl
 ·split
  ·exact .inr (.inl rfl)
  ·exact .inr (.inr ⟨rfl, by omega⟩)
set_option maxHeartbeats 1000000 in
theorem take_code (w : World) (b : Nat) (s : ByteArray) (p : Nat) (n : Int) (hr : IsRd w b s p) :
  Calls Tryz.prog 63 #[.pointer (some ⟨b, 0, none⟩), .int .i64 n] w fun e w' => e = .returned (.tuple #[.int .i64 (ask s.data.toList p n).1, .int .i64 (ask s.data.toList p n).2]) ∧ IsRd w' b s (askTo s.data.toList p n) ∧ w.grownBy w' (some b) := by
 have hrg := ask_range s.data.toList p n
 have hto : askTo s.data.toList p n = if (ask s.data.toList p n).2 = 0 then p + n.toNat else p := rfl
 have hsl : s.data.toList.length = s.size := rfl
 rw [hto]
 generalize hq : ask s.data.toList p n = q at hrg ⊢
 obtain ⟨v, c⟩ := q
 have Q := Lib.hid hq
 clear hq hto
 go_enter Tryz.func63, Tryz.ntmps63
 go_wp2_with fail
 refine (peek_code _ _ _ _ _ hr).mono ?_
 rintro e w1 ⟨rfl, hb⟩
 rw [Q.out]
 have hr1 := hr.below hb
 have hg1 : w.grownBy w1 (some b) := ⟨hb.os, hb.tape, hb.output, hb.size, fun k hk _ => hb.block k hk⟩
 by_cases h0 : c = 0
 ·subst h0
  have hn : 0 ≤ n ∧ n ≤ 32 ∧ n ≤ 8 * (s.size : Int) - p := by
   rcases hrg with h | h | h
   ·cases h
   ·cases h
   ·exact ⟨h.2.1, h.2.2.1, by rw [← hsl]; exact h.2.2.2⟩
  obtain ⟨n0, n1, n2⟩ := hn
  obtain ⟨c0, c1⟩ := hr1.cells
  have hfr := part_free (o := 1) hr1.1
  have hm := hr1.moved (p + n.toNat) (by omega)
  have hg2 := grownBy_setCell w1 ⟨b, 1, none⟩ (.int .i64 ((p + n.toNat : Nat) : Int))
  have hnn : ((p + n.toNat : Nat) : Int) = (p : Int) + n := by omega
  rw [hnn] at hm hg2
  have hps : p ≤ 1125899906842624 := by have := hr.2; omega
  clear hrg
  go_wp2
  go_ret2
  exact ⟨rfl, hm, grown_trans hg1 hg2⟩
 ·have d0 : (c == 0) = false := by rw [beq_eq_false_iff_ne]; exact h0
  go_wp2
  go_ret2
  exact ⟨rfl, hr1, hg1⟩
set_option maxHeartbeats 1000000 in
theorem seek_code (w : World) (b : Nat) (s : ByteArray) (p : Nat) (n : Int) (hr : IsRd w b s p) (h1 : 0 ≤ n) (h2 : n ≤ 8 * (s.size : Int)) :
  Calls Tryz.prog 14 #[.pointer (some ⟨b, 0, none⟩), .int .i64 n] w fun e w' => e = .returned (.int .i64 0) ∧ IsRd w' b s n.toNat ∧ w.grownBy w' (some b) := by
 obtain ⟨c0, c1⟩ := hr.cells
 have hs := hr.2.2
 have hfr := part_free (o := 1) hr.1
 have hm := hr.moved n.toNat (by omega)
 have hg := grownBy_setCell w ⟨b, 1, none⟩ (.int .i64 ((n.toNat : Nat) : Int))
 rw [show ((n.toNat : Nat) : Int) = n by omega] at hm hg
 have d1 : decide (n < 0) = false := by simpa using h1
 have d2 : decide (8 * (s.size : Int) < n) = false := by simpa using h2
 go_enter Tryz.func14, Tryz.ntmps14
 go_wp2
 go_ret
 exact ⟨rfl, hm, hg⟩
end Go.Proofs.YtekjgcchnmnplaaGreatDoor
