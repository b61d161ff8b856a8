/- At which byte package marks finds a sheet's begin or the end, and what it writes. Conditions: texts of at most 2^40 bytes. -/
import Derived.Test.YtmmcmckadkgmmaaMarks
import Derived.WalkMore
namespace Go.Proofs.Ytmmcmckadkgmmaa
open Go.RowKit

theorem hit_mark {l : List UInt8} {i : Nat} {n c : Int} (h : markAt l ((8 * i : Nat) : Int) = (n, c)) : hit l i = (c == 0 && (n == 0 || n == 31)) := by unfold hit; rw [h]
set_option maxHeartbeats 1000000 in
theorem find_code (w : World) (s : ByteArray) (start : Int) (hs : s.size ≤ 1099511627776) :
    Calls Try.prog 14 #[.string s, .int .i64 start] w fun e w' => FindsE s.data.toList start e ∧ Below w.heap.size w w' := by
  have hsl : s.data.toList.length = s.size := rfl
  obtain ⟨B, hB⟩ : ∃ B, w.heap.size = B := ⟨_, rfl⟩
  have HB := Lib.hid hB
  rw [hB]
  clear hB
  go_enter Try.func14, Try.ntmps14
  go_wp2
  go_step3
  go_wp2
  go_step3
  go_wp2
  all_goals
    have hst := h
    go_loopw [7] (fun x wr => ∃ i : Nat, x = .int .i64 i ∧ start ≤ (i : Int) ∧ Hid (∀ k : Nat, start ≤ k → k < i → hit s.data.toList k = false) ∧ Below B w wr) (fun x _ => s.size + 1 - (intOf x).toNat)
    case atStart =>
      refine ⟨start.toNat, ?_, by omega, Lib.hid fun k h1 h2 => by omega, Below.refl _ _⟩
      congr 1
      omega
    case round =>
      clear hst h
      obtain ⟨i, rfl, hi0, N, hbw⟩ := hrel
      by_cases hlt : i + 3 ≤ s.size
      · have d0 : decide ((i : Int) ≤ (s.size : Int) - 3) = true := by simp; omega
        have hz := hbw.size
        go_wp2
        go_loop [20] (fun x => ∃ j : Nat, j ≤ 2 ∧ x = .int .i64 j) (fun x => 2 - (intOf x).toNat)
        case atStart => exact ⟨0, by omega, rfl⟩
        case round =>
          obtain ⟨j, hj, rfl⟩ := hrel
          by_cases hj2 : j < 2
          · have hin : i + j < s.size := by omega
            by_cases hb0 : s[i + j].toNat = 0
            · have e0 : ((s[i + j].toNat : Int) != 0) = false := by rw [hb0]; rfl
              clear hb0
              go_wp2
              go_round
              case rel => exact ⟨j + 1, by omega, by go_num⟩
              case measure => simp [intOf]; omega
            · have e0 : ((s[i + j].toNat : Int) != 0) = true := by rw [bne_iff_ne]; omega
              have hno : hit s.data.toList i = false := hit_byte hj2 (by rw [hsl]; exact hin) hb0
              have N2 := Lib.hid (fun (k : Nat) (h1 : start ≤ (k : Int)) (h2 : k < i + 1) => (by
                rcases Nat.lt_or_ge k i with h | h
                · exact N.out k h1 h
                · rw [show k = i by omega]; exact hno : hit s.data.toList k = false))
              clear hb0 hno
              go_wp2
              go_roundw
              case rel => exact ⟨i + 1, by go_num, by omega, N2, hbw⟩
              case measure => simp [intOf]; omega
          · obtain rfl : j = 2 := by omega
            go_wp2_with fail
            rw [show (8 : Int) * (i : Int) = ((8 * i : Nat) : Int) by omega]
            refine (mat_code _ _ _ hs).mono ?_
            rintro e w1 ⟨rfl, hb1⟩
            have hbw1 := hbw.trans (hb1.mono (by rw [HB.out] at hz; exact hz))
            obtain ⟨n, hn⟩ : ∃ n, (markAt s.data.toList ((8 * i : Nat) : Int)).1 = n := ⟨_, rfl⟩
            obtain ⟨c, hc⟩ : ∃ c, (markAt s.data.toList ((8 * i : Nat) : Int)).2 = c := ⟨_, rfl⟩
            rw [hn, hc]
            have H : Hid (hit s.data.toList i = (c == 0 && (n == 0 || n == 31))) := Lib.hid (by unfold hit; rw [hn, hc])
            have NN := Lib.hid hn
            clear hn hc
            by_cases hh : hit s.data.toList i = true
            · have hcn := hh
              rw [H.out, Bool.and_eq_true, beq_iff_eq] at hcn
              obtain ⟨rfl, hcn⟩ := hcn
              have F : Hid (Finds s.data.toList start (i : Int) n true) := Lib.hid (.inl ⟨rfl, i, rfl, hi0, hh, NN.out.symm, N.out⟩)
              clear hh
              cases hn0 : (n == 0) with
              | true =>
                clear hcn
                go_wp2
                rw [Exit.noGoto_ret]
                go_ret3
                exact ⟨⟨_, _, _, rfl, F.out⟩, hbw1⟩
              | false =>
                rw [hn0, Bool.false_or] at hcn
                go_wp2
                rw [Exit.noGoto_ret]
                go_ret3
                exact ⟨⟨_, _, _, rfl, F.out⟩, hbw1⟩
            · have hno : hit s.data.toList i = false := by simpa using hh
              have N2 := Lib.hid (fun (k : Nat) (h1 : start ≤ (k : Int)) (h2 : k < i + 1) => (by
                rcases Nat.lt_or_ge k i with h | h
                · exact N.out k h1 h
                · rw [show k = i by omega]; exact hno : hit s.data.toList k = false))
              have hcn := hno
              rw [H.out] at hcn
              clear hno hh
              cases hc0 : (c == 0) with
              | false =>
                clear hcn
                go_wp2
                go_roundw
                case rel => exact ⟨i + 1, by go_num, by omega, N2, hbw1⟩
                case measure => simp [intOf]; omega
              | true =>
                rw [hc0, Bool.true_and, Bool.or_eq_false_iff] at hcn
                obtain ⟨hn0, hn31⟩ := hcn
                go_wp2
                go_roundw
                case rel => exact ⟨i + 1, by go_num, by omega, N2, hbw1⟩
                case measure => simp [intOf]; omega
      · have d0 : decide ((i : Int) ≤ (s.size : Int) - 3) = false := by simp; omega
        have hfin : Finds s.data.toList start 0 0 false := .inr ⟨rfl, rfl, rfl, fun k hk => by
          rcases Nat.lt_or_ge k i with h | h
          · exact N.out k hk h
          · exact hit_short (by rw [hsl]; omega)⟩
        have F := Lib.hid hfin
        clear hfin
        go_wp2
        rw [Exit.noGoto_ret]
        go_ret3
        exact ⟨⟨_, _, _, rfl, F.out⟩, hbw⟩

theorem or_32 : ∀ n : Fin 32, bits .or .i64 32 ((n.val : Nat) : Int) = ((32 + n.val : Nat) : Int) := by decide +kernel
/-- A mark's bits. -/
def markRow (n : Nat) : List UInt8 := rowOf (32 + n) 22
theorem markRow_is (n : Nat) : rowOf (((32 + n : Nat) : Int)).toNat (22 : Int).toNat = markRow n := rfl
theorem mark_fits (n : Nat) (h : n < 32) : fitsIn ((32 + n : Nat) : Int) 22 = true := by
  unfold fitsIn
  rw [decide_eq_true_iff]
  refine ⟨by omega, by omega, by omega, ?_⟩
  show ((32 + n : Nat) : Int) < 2 ^ 22
  omega
set_option maxHeartbeats 1000000 in
theorem mput_code (w : World) (B b : Nat) (r : List UInt8) (n : Nat) (h : n < 32) (hw : IsWr w B b r) (hn : r.length + 40 ≤ 1099511627776) (hB : B ≤ w.heap.size) :
    Calls Try.prog 19 #[.pointer (some ⟨b, 0, none⟩), .int .i64 (n : Int)] w fun e w' => e = .returned (.int .i64 0) ∧ IsWr w' B b (r ++ List.replicate (gap r.length) 48 ++ markRow n) ∧ w.grownBy w' (some b) := by
  have O : Hid (bits .or .i64 32 (n : Int) = ((32 + n : Nat) : Int)) := Lib.hid (or_32 ⟨n, h⟩)
  have hf := mark_fits n h
  have F := Lib.hid hf
  have G := Lib.hid (gap_lt r.length)
  have d1 : decide ((n : Int) < 0) = false := by simp
  have d2 : decide (31 < (n : Int)) = false := by simp; omega
  have V : Hid (((32 + n : Nat) : Int) ≤ 9223372036854775807) := Lib.hid (by omega)
  clear hf h
  go_enter Try.func19, Try.ntmps19
  go_wp2_with fail
  refine (fill_code _ B b r hw (by omega) hB).mono ?_
  rintro e w1 ⟨rfl, hw1, hg1⟩
  have hB1 : B ≤ w1.heap.size := Nat.le_trans hB hg1.size
  go_wp2_with fail
  rw [O.out]
  refine (put_fits _ B b _ _ _ hw1 V.out F.out (by have := G.out; rw [List.length_append, List.length_replicate]; omega) hB1).mono ?_
  rintro e w2 ⟨rfl, hw2, hg2⟩
  rw [markRow_is] at hw2
  go_wp2
  go_ret
  exact ⟨rfl, hw2, grown_trans hg1 hg2⟩
set_option maxHeartbeats 1000000 in
theorem mput_not (w : World) (p : Option Addr) (n : Int) (h : n < 0 ∨ 31 < n) :
    Calls Try.prog 19 #[.pointer p, .int .i64 n] w fun e w' => e = .returned (.int .i64 1) ∧ w = w' := by
  cases p with
  | none =>
    go_enter Try.func19, Try.ntmps19
    go_wp2
    go_ret
    exact ⟨rfl, rfl⟩
  | some a =>
    by_cases h1 : n < 0
    · clear h
      go_enter Try.func19, Try.ntmps19
      go_wp2
      go_ret
      exact ⟨rfl, rfl⟩
    · have h2 : 31 < n := by omega
      clear h
      go_enter Try.func19, Try.ntmps19
      go_wp2
      go_ret
      exact ⟨rfl, rfl⟩
set_option maxHeartbeats 1000000 in
theorem mput_nil (w : World) (n : Int) :
    Calls Try.prog 19 #[.pointer none, .int .i64 n] w fun e w' => e = .returned (.int .i64 1) ∧ w = w' := by
  go_enter Try.func19, Try.ntmps19
  go_wp2
  go_ret
  exact ⟨rfl, rfl⟩
end Go.Proofs.Ytmmcmckadkgmmaa
