/- What the library's functions tell of a byte's first 1. No condition. -/
import Derived.Test.YtmmcmckadkgmmaaMark
import Derived.Laws.MathBits
namespace Go.Proofs.Ytmmcmckadkgmmaa
open Go.RowKit

set_option maxRecDepth 100000 in
set_option maxHeartbeats 1000000 in
theorem len8_code (w : World) (c : Nat) (h : c < 256) :
    Calls Try.prog 35 #[.int .u8 (c : Int)] w fun e w' => e = .returned (.int .i64 ((bitLen c : Nat) : Int)) ∧ w = w' := by
  go_enter Try.func35, Try.ntmps35
  go_wp2
  go_ret
  refine ⟨ret_int ?_, rfl⟩
  rw [len8tab_get]
  have := bitLen_le8 c h
  unfold wrap64
  omega
set_option maxHeartbeats 1000000 in
theorem zeros8_code (w : World) (c : Nat) (h : c < 256) :
    Calls Try.prog 28 #[.int .u8 (c : Int)] w fun e w' => e = .returned (.int .i64 ((8 - bitLen c : Nat) : Int)) ∧ w = w' := by
  have hm := bitLen_le8 c h
  obtain ⟨y, hy⟩ : ∃ y, bitLen c = y := ⟨_, rfl⟩
  rw [hy] at hm ⊢
  have Y := Lib.hid hy
  clear hy
  go_enter Try.func28, Try.ntmps28
  go_wp2_with fail
  refine (len8_code _ c h).mono ?_
  rintro e w1 ⟨rfl, rfl⟩
  rw [Y.out]
  go_wp2
  go_ret
  exact ⟨ret_int (by omega), rfl⟩

/-- The low digits of a byte, by a mask. -/
theorem low_byte : ∀ c : Fin 256, ∀ g : Fin 8, bits .and .u8 ((c.val : Nat) : Int) (((255 / 2 ^ g.val : Nat) : Nat) : Int) = ((c.val % 2 ^ (8 - g.val) : Nat) : Int) := by decide +kernel
theorem ret_nat {a b : Nat} {x : Int} (h1 : x = (a : Int)) (h : a = b) {k : IntKind} : Ending.returned (.int k x) = .returned (.int k ((b : Nat) : Int)) := by rw [h1, h]
set_option maxHeartbeats 1000000 in
theorem zeros_code (w : World) (s : ByteArray) (bit : Int) (hs : s.size ≤ 1099511627776) :
    Calls Try.prog 12 #[.string s, .int .i64 bit] w fun e w' => e = .returned (.int .i64 ((noughts s.data.toList bit : Nat) : Int)) ∧ Below w.heap.size w w' := by
  have hsl : s.data.toList.length = s.size := rfl
  by_cases h1 : bit < 0
  · have A := Lib.hid (noughts_less (l := s.data.toList) h1)
    go_enter Try.func12, Try.ntmps12
    go_wp2
    go_ret
    exact ⟨ret_int (by rw [A.out]; rfl), Below.refl _ _⟩
  · have d1 : decide (bit < 0) = false := by simpa using h1
    by_cases h2 : 8 * (s.size : Int) ≤ bit
    · have A := Lib.hid (noughts_over (l := s.data.toList) (bit := bit) (by rw [hsl]; exact h2))
      have d2 : decide (8 * (s.size : Int) ≤ bit) = true := by simpa using h2
      go_enter Try.func12, Try.ntmps12
      go_wp2
      go_ret
      exact ⟨ret_int (by rw [A.out]; rfl), Below.refl _ _⟩
    · obtain ⟨p, rfl⟩ := Int.eq_ofNat_of_zero_le (by omega : 0 ≤ bit)
      have d2 : decide (8 * (s.size : Int) ≤ (p : Int)) = false := by simpa using h2
      have hp : p < 8 * s.size := by omega
      obtain ⟨f, hf⟩ : ∃ f, p / 8 = f := ⟨_, rfl⟩
      obtain ⟨g, hg⟩ : ∃ g, p % 8 = g := ⟨_, rfl⟩
      have hpf : (p : Int) / 8 = (f : Int) := by omega
      have hpg : (p : Int) % 8 = (g : Int) := by omega
      have hfs : f < s.size := by omega
      have hfg : p = 8 * f + g := by omega
      have hg8 : g < 8 := by omega
      have FG := Lib.hid hfg
      clear h1 h2 hf hg hfg
      go_enter Try.func12, Try.ntmps12
      go_wp2
      go_region
      go_wp2
      clear hpf hpg
      go_loopw [5, 6] (fun i x wr => ∃ j c : Nat, f ≤ j ∧ j < s.size ∧ c < 256 ∧ i = .int .i64 j ∧ x = .int .u8 (c : Int) ∧ Hid (tell s.data.toList p (8 * (j + 1) - p) = c) ∧ Below w.heap.size w wr) (fun i _ _ => s.size - (intOf i).toNat)
      case atStart =>
        have hlow := low_byte ⟨s[f].toNat, s[f].toNat_lt⟩ ⟨g, hg8⟩
        have htl := tell_end s.data.toList p f (8 * (f + 1) - p) (by rw [hsl]; exact hfs) (by have := FG.out; omega) (by have := FG.out; omega)
        have hmod : s[f].toNat % 2 ^ (8 - g) < 256 := Nat.lt_of_le_of_lt (Nat.mod_le _ _) s[f].toNat_lt
        refine ⟨f, s[f].toNat % 2 ^ (8 - g), Nat.le_refl _, hfs, hmod, rfl, ?_, Lib.hid ?_, (Below.refl _ w).drew⟩
        · rw [← hlow]
          simp
        · rw [htl, show 8 * (f + 1) - p = 8 - g by have := FG.out; omega]
          rfl
      case round =>
        obtain ⟨j, c, hfj, hjs, hc, rfl, rfl, T, hbw⟩ := hrel
        by_cases h0 : c = 0
        · have d0 : ((c : Int) == 0) = true := by rw [h0]; rfl
          by_cases h3 : j + 1 = s.size
          · have A := Lib.hid (noughts_all s.data.toList p (8 * (j + 1) - p) (by rw [hsl]; have := FG.out; omega) (by rw [T.out, h0]))
            have d3 : ((j : Int) + 1 == (s.size : Int)) = true := by rw [beq_iff_eq]; omega
            have hpj : p ≤ 8 * j + 8 := by have := FG.out; omega
            have hj40 : j ≤ 1099511627776 := by omega
            clear h0
            go_wp2
            go_ret
            exact ⟨ret_int (by rw [A.out]; omega), hbw⟩
          · have d3 : ((j : Int) + 1 == (s.size : Int)) = false := by rw [beq_eq_false_iff_ne]; omega
            have hj1 : j + 1 < s.size := by omega
            have T2 := Lib.hid ((by
              have e := tell_more s.data.toList p (8 * (j + 1) - p) 8 (by rw [hsl]; have := FG.out; omega)
              rw [T.out, h0, show p + (8 * (j + 1) - p) = 8 * (j + 1) by have := FG.out; omega, tell_byte _ _ (by rw [hsl]; exact hj1)] at e
              rw [show 8 * (j + 1 + 1) - p = 8 * (j + 1) - p + 8 by have := FG.out; omega, e, Nat.zero_mul, Nat.zero_add]
              rfl : tell s.data.toList p (8 * (j + 1 + 1) - p) = s[j + 1].toNat))
            have hc2 := s[j + 1].toNat_lt
            clear h0 h3
            go_wp2
            go_roundw
            case rel => exact ⟨j + 1, s[j + 1].toNat, by omega, hj1, hc2, by go_num, rfl, T2, hbw⟩
            case measure => simp [intOf]; omega
        · have d0 : ((c : Int) == 0) = false := by rw [beq_eq_false_iff_ne]; omega
          have hlen := bitLen_le8 c hc
          have hfin : (((8 * (j : Int) + ((8 - bitLen c : Nat) : Int) - p) : Int)) = ((noughts s.data.toList (p : Int) : Nat) : Int) := by
            have hs2 := bitLen_spec c
            have hne : bitLen c ≠ 0 := by unfold bitLen; rw [if_neg h0]; omega
            have hpl := hs2.2 h0
            have hlt := tell_lt s.data.toList p (8 * (j + 1) - p)
            have hk : bitLen c - 1 < 8 * (j + 1) - p := by
              rcases Nat.lt_or_ge (bitLen c - 1) (8 * (j + 1) - p) with h | h
              · exact h
              · have := Nat.pow_le_pow_right (n := 2) (by omega) h
                rw [T.out] at hlt
                omega
            have A := noughts_lead s.data.toList p (8 * (j + 1) - p) (bitLen c - 1) (by rw [hsl]; have := FG.out; omega) hk (by rw [T.out]; exact hpl) (by rw [T.out, show bitLen c - 1 + 1 = bitLen c by omega]; exact hs2.1)
            rw [A]
            omega
          obtain ⟨y, hy⟩ : ∃ y, 8 - bitLen c = y := ⟨_, rfl⟩
          rw [hy] at hfin
          have Y := Lib.hid hy
          have F := Lib.hid hfin
          have hy8 : y ≤ 8 := by omega
          clear hfin hy hlen h0
          go_wp2_with fail
          refine (zeros8_code _ c hc).mono ?_
          rintro e w1 ⟨rfl, rfl⟩
          rw [Y.out]
          go_wp2
          go_ret
          exact ⟨ret_int (by rw [← F.out]), hbw⟩
end Go.Proofs.Ytmmcmckadkgmmaa
