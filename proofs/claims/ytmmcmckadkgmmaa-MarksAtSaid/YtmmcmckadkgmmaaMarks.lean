/- What package marks does. Conditions: texts of at most 2^40 bytes. -/
import Derived.Test.YtmmcmckadkgmmaaMark
import Derived.Test.YtmmcmckadkgmmaaText
namespace Go.Proofs.Ytmmcmckadkgmmaa
open Go.RowKit

theorem shift5 (y : Nat) : (y : Int) / 2 ^ 5 = ((y / 32 : Nat) : Int) := by simp
theorem low5 (y : Nat) : bits .and .i64 (y : Int) 31 = ((y % 32 : Nat) : Int) := by
  have := and_low (y : Int) 5 (by omega)
  rw [show (2 : Int) ^ 5 - 1 = 31 from rfl] at this
  rw [this]
  simp

theorem mark_pair {l : List UInt8} {bit : Int} {v c : Int} (h : markAt l bit = (v, c)) {k k' : IntKind} : Ending.returned (.tuple #[.int k v, .int k' c]) = .returned (.tuple #[.int k (markAt l bit).1, .int k' (markAt l bit).2]) := by rw [h]

set_option maxHeartbeats 1000000 in
theorem mat_code (w : World) (s : ByteArray) (bit : Int) (hs : s.size ≤ 1099511627776) :
    Calls Try.prog 8 #[.string s, .int .i64 bit] w fun e w' => e = .returned (.tuple #[.int .i64 (markAt s.data.toList bit).1, .int .i64 (markAt s.data.toList bit).2]) ∧ Below w.heap.size w w' := by
  have hsl : s.data.toList.length = s.size := rfl
  obtain ⟨b, hb⟩ : ∃ b, w.heap.size = b := ⟨_, rfl⟩
  have hr0 : IsRd (w.alloc (rdObj s 0)) b s 0 := IsRd.fresh hb hs
  have hb0 : Below w.heap.size w (w.alloc (rdObj s 0)) := (Below.refl _ w).alloc (Nat.le_refl _) _
  have hz0 : (w.alloc (rdObj s 0)).heap.size = b + 1 := by simp; exact hb
  rw [hb] at hb0
  have HB := Lib.hid hb
  rw [hb]
  by_cases h1 : bit < 0 ∨ 8 * (s.size : Int) < bit
  · have A := Lib.hid (mark_arg (l := s.data.toList) (bit := bit) (by rw [hsl]; exact h1))
    go_enter Try.func8, Try.ntmps8
    go_wp2_with fail
    refine (rnew_code _ _).mono ?_
    rintro e w1 ⟨rfl, rfl⟩
    rw [HB.out]
    go_wp2_with fail
    refine (seek_not _ _ _ _ bit hr0 h1).mono ?_
    rintro e w1 ⟨rfl, rfl⟩
    clear h1
    go_wp2
    go_ret2
    exact ⟨mark_pair A.out, hb0⟩
  · obtain ⟨p, rfl⟩ := Int.eq_ofNat_of_zero_le (by omega : 0 ≤ bit)
    have hp : p ≤ 8 * s.size := by omega
    clear h1
    by_cases h2 : 8 * s.size < p + 22
    · have A := Lib.hid (mark_short (l := s.data.toList) (p := p) (by rw [hsl]; exact hp) (by rw [hsl]; exact h2))
      have K := Lib.hid (ask_short (l := s.data.toList) (p := p) (n := 22) (by omega) (by rw [hsl]; omega))
      go_enter Try.func8, Try.ntmps8
      go_wp2_with fail
      refine (rnew_code _ _).mono ?_
      rintro e w1 ⟨rfl, rfl⟩
      rw [HB.out]
      go_wp2_with fail
      refine (seek_code _ _ _ _ (p : Int) hr0 (by omega) (by omega)).mono ?_
      rintro e w1 ⟨rfl, hr1, hg1⟩
      rw [Int.toNat_natCast] at hr1
      have hb1 : Below b w w1 := hb0.grown hg1 (by omega) (by intro k hk; injection hk with hk; omega)
      have hz1 := hg1.size
      go_wp2_with fail
      refine (take_code _ _ _ _ _ hr1).mono ?_
      rintro e w2 ⟨rfl, hr2, hg2⟩
      rw [K.out]
      have hb2 : Below b w w2 := hb1.grown hg2 (by omega) (by intro k hk; injection hk with hk; omega)
      go_wp2
      go_ret2
      exact ⟨mark_pair A.out, hb2⟩
    · have A := Lib.hid (mark_in (l := s.data.toList) (p := p) (by rw [hsl]; omega))
      have K := Lib.hid (ask_ok (l := s.data.toList) (p := p) (n := 22) (by omega) (by rw [hsl]; omega))
      have hlt : tell s.data.toList p (22 : Int).toNat < 4194304 := tell_lt s.data.toList p 22
      have hne : tell s.data.toList p (22 : Int).toNat = tell s.data.toList p 22 := rfl
      rw [← hne] at A
      generalize tell s.data.toList p (22 : Int).toNat = y at A K hlt
      clear hne
      have S5 := Lib.hid (shift5 y)
      have L5 := Lib.hid (low5 y)
      go_enter Try.func8, Try.ntmps8
      go_wp2_with fail
      refine (rnew_code _ _).mono ?_
      rintro e w1 ⟨rfl, rfl⟩
      rw [HB.out]
      go_wp2_with fail
      refine (seek_code _ _ _ _ (p : Int) hr0 (by omega) (by omega)).mono ?_
      rintro e w1 ⟨rfl, hr1, hg1⟩
      rw [Int.toNat_natCast] at hr1
      have hb1 : Below b w w1 := hb0.grown hg1 (by omega) (by intro k hk; injection hk with hk; omega)
      have hz1 := hg1.size
      go_wp2_with fail
      refine (take_code _ _ _ _ _ hr1).mono ?_
      rintro e w2 ⟨rfl, hr2, hg2⟩
      rw [K.out]
      have hb2 : Below b w w2 := hb1.grown hg2 (by omega) (by intro k hk; injection hk with hk; omega)
      clear hr0 hb0 hz0 hr1 hg1 hr2 hg2 hb1 hz1 K
      by_cases h3 : y / 32 = 1
      · have d3 : ((y : Int) / 32 != 1) = false := by rw [bne_eq_false_iff_eq]; omega
        have A2 := Lib.hid (A.out.trans (if_pos h3))
        clear A h3
        go_wp2
        go_ret2
        rw [L5.out]
        exact ⟨mark_pair A2.out, hb2⟩
      · have d3 : ((y : Int) / 32 != 1) = true := by rw [bne_iff_ne]; omega
        have A2 := Lib.hid (A.out.trans (if_neg h3))
        clear A h3
        go_wp2
        go_ret2
        exact ⟨mark_pair A2.out, hb2⟩

theorem next_pair {l : List UInt8} {bit : Int} {v : Int} {c : Bool} (h : nextOf l bit = (v, c)) {k : IntKind} : Ending.returned (.tuple #[.int k v, .bool c]) = .returned (.tuple #[.int k (nextOf l bit).1, .bool (nextOf l bit).2]) := by rw [h]
set_option maxHeartbeats 1000000 in
theorem mnext_code (w : World) (s : ByteArray) (bit : Int) (hs : s.size ≤ 1099511627776) :
    Calls Try.prog 10 #[.string s, .int .i64 bit] w fun e w' => e = .returned (.tuple #[.int .i64 (nextOf s.data.toList bit).1, .bool (nextOf s.data.toList bit).2]) ∧ Below w.heap.size w w' := by
  have hsl : s.data.toList.length = s.size := rfl
  obtain ⟨b, hb⟩ : ∃ b, w.heap.size = b := ⟨_, rfl⟩
  have hr0 : IsRd (w.alloc (rdObj s 0)) b s 0 := IsRd.fresh hb hs
  have hb0 : Below w.heap.size w (w.alloc (rdObj s 0)) := (Below.refl _ w).alloc (Nat.le_refl _) _
  have hz0 : (w.alloc (rdObj s 0)).heap.size = b + 1 := by simp; exact hb
  rw [hb] at hb0
  have HB := Lib.hid hb
  rw [hb]
  by_cases h1 : bit < 0 ∨ 8 * (s.size : Int) < bit
  · have A := Lib.hid (next_arg (l := s.data.toList) (bit := bit) (by rw [hsl]; exact h1))
    go_enter Try.func10, Try.ntmps10
    go_wp2_with fail
    refine (rnew_code _ _).mono ?_
    rintro e w1 ⟨rfl, rfl⟩
    rw [HB.out]
    go_wp2_with fail
    refine (seek_not _ _ _ _ bit hr0 h1).mono ?_
    rintro e w1 ⟨rfl, rfl⟩
    clear h1
    go_wp2
    go_ret2
    exact ⟨next_pair A.out, hb0⟩
  · obtain ⟨p, rfl⟩ := Int.eq_ofNat_of_zero_le (by omega : 0 ≤ bit)
    have hp : p ≤ 8 * s.size := by omega
    clear h1
    go_enter Try.func10, Try.ntmps10
    go_wp2_with fail
    refine (rnew_code _ _).mono ?_
    rintro e w1 ⟨rfl, rfl⟩
    rw [HB.out]
    go_wp2_with fail
    refine (seek_code _ _ _ _ (p : Int) hr0 (by omega) (by omega)).mono ?_
    rintro e w1 ⟨rfl, hr1, hg1⟩
    rw [Int.toNat_natCast] at hr1
    have hb1 : Below b w w1 := hb0.grown hg1 (by omega) (by intro k hk; injection hk with hk; omega)
    have hz1 := hg1.size
    go_wp2_with fail
    refine (rfill_code _ _ _ _ hr1).mono ?_
    rintro e w2 ⟨rfl, hr2, hg2⟩
    have hb2 : Below b w w2 := hb1.grown hg2 (by omega) (by intro k hk; injection hk with hk; omega)
    have hz2 := hg2.size
    have hz : b ≤ w2.heap.size := by omega
    clear hr0 hb0 hz0 hr1 hg1 hg2 hb1 hz1 hz2
    by_cases h3 : tell s.data.toList p (gap p) = 0
    · have A := Lib.hid (next_in (l := s.data.toList) (p := p) (by rw [hsl]; exact hp) h3)
      have e1 : fillOf s.data.toList p = (((gap p : Nat) : Int), 0) := if_pos h3
      have e2 : fillTo s.data.toList p = p + gap p := if_pos h3
      rw [e2] at hr2
      rw [e1]
      generalize p + gap p = q at A hr2
      generalize gap p = g
      clear h3 e1 e2
      go_wp2_with fail
      refine (at_code _ _ _ _ hr2).mono ?_
      rintro e w3 ⟨rfl, rfl⟩
      go_wp2_with fail
      refine (mat_code _ _ _ hs).mono ?_
      rintro e w4 ⟨rfl, hb4⟩
      go_wp2
      go_ret2
      exact ⟨next_pair A.out, hb2.trans (hb4.mono hz)⟩
    · have A := Lib.hid (next_not (l := s.data.toList) (p := p) (by rw [hsl]; exact hp) h3)
      have e1 : fillOf s.data.toList p = (0, 5) := if_neg h3
      rw [e1]
      clear h3 e1 hr2
      go_wp2
      go_ret2
      exact ⟨next_pair A.out, hb2⟩
end Go.Proofs.Ytmmcmckadkgmmaa
