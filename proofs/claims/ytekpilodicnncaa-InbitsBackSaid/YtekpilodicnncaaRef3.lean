/- What the document's own answers for package inbits tell, and that the chapter's example comes out. Conditions: texts of at most 2^40 bytes. -/
import Derived.Test.YtekpilodicnncaaReader
import Derived.Test.YtekpilodicnncaaLaws
namespace Go.Proofs.Ytekpilodicnncaa
open Go.RowKit

theorem show_size (s : ByteArray) : (⟨(showL s.data.toList).toArray⟩ : ByteArray).size = 8 * s.size := by rw [size_mk, showL_length]; rfl
theorem show_cut (s : ByteArray) (p n : Nat) : (⟨(showL s.data.toList).toArray⟩ : ByteArray).extract p (p + n) = ⟨(((showL s.data.toList).drop p).take n).toArray⟩ := by
  rw [bytes_extract, List.drop_take, show p + n - p = n by omega]

set_option maxHeartbeats 1000000 in
theorem take_page (s : ByteArray) (p : Nat) (n : Int) (hp : p ≤ 8 * s.size) (hs : s.size ≤ 1099511627776) (w : World) :
    Calls Try.prog 10 #[.string ⟨(showL s.data.toList).toArray⟩, .int .i64 (p : Int), .int .i64 n] w fun e w' => e = .returned (.tuple #[.int .i64 (ask s.data.toList p n).1, .int .i64 (ask s.data.toList p n).2]) ∧ w = w' := by
  have hsl : s.data.toList.length = s.size := rfl
  have hsz := show_size s
  by_cases h1 : n < 0
  · have A := Lib.hid (ask_arg (l := s.data.toList) (p := p) (n := n) (.inl h1))
    go_enter Try.func10, Try.ntmps10
    go_wp2
    go_ret2
    exact ⟨ask_pair A.out, rfl⟩
  · by_cases h2 : 32 < n
    · have A := Lib.hid (ask_arg (l := s.data.toList) (p := p) (n := n) (.inr h2))
      go_enter Try.func10, Try.ntmps10
      go_wp2
      go_ret2
      exact ⟨ask_pair A.out, rfl⟩
    · have d1 : decide (n < 0) = false := by simpa using h1
      have d2 : decide (32 < n) = false := by simpa using h2
      by_cases h3 : 8 * (s.size : Int) - p < n
      · have A := Lib.hid (ask_short (l := s.data.toList) (p := p) (n := n) (by omega) (by rw [hsl]; exact h3))
        have Z := Lib.hid hsz
        generalize (⟨(showL s.data.toList).toArray⟩ : ByteArray) = S at Z ⊢
        have hz := Z.out
        have d3 : decide ((S.size : Int) - p < n) = true := by simp; omega
        clear hsz Z
        go_enter Try.func10, Try.ntmps10
        go_wp2
        go_ret2
        exact ⟨ask_pair A.out, rfl⟩
      · obtain ⟨k, rfl⟩ := Int.eq_ofNat_of_zero_le (by omega : 0 ≤ n)
        have A := Lib.hid (ask_ok (l := s.data.toList) (p := p) (n := (k : Int)) (by omega) (by rw [hsl]; omega))
        have hcut := show_cut s p k
        have hrow : isRow ((⟨(showL s.data.toList).toArray⟩ : ByteArray).extract p (p + k)).data.toList = true := by
          rw [hcut]; exact isRow_take _ _ (isRow_drop _ _ (showL_row _))
        have hnum : num ((⟨(showL s.data.toList).toArray⟩ : ByteArray).extract p (p + k)).data.toList = tell s.data.toList p k := by rw [hcut]; rfl
        generalize (⟨(showL s.data.toList).toArray⟩ : ByteArray) = S at hsz hrow hnum ⊢
        have d3 : decide ((S.size : Int) - p < (k : Int)) = false := by simp; omega
        have hes : (S.extract p (p + k)).size ≤ 32 := by rw [ByteArray.size_extract]; omega
        have HR := Lib.hid hrow
        have HN := Lib.hid hnum
        clear hrow hnum hcut
        go_enter Try.func10, Try.ntmps10
        go_wp2_with fail
        refine (number_page _ hes HR.out _).mono ?_
        rintro e w1 ⟨rfl, rfl⟩
        rw [HN.out]
        go_wp2
        go_ret2
        exact ⟨ask_pair A.out, rfl⟩

section
attribute [local irreducible] numFrom
/-- Noughts alone tell 0, and nothing else does. -/
theorem num_zero_iff : ∀ l : List UInt8, isRow l = true → (num l = 0 ↔ ∀ i (h : i < l.length), l[i] = 48)
  | [], _ => ⟨fun _ i h => absurd h (Nat.not_lt_zero i), fun _ => by unfold num; rw [numFrom_nil]⟩
  | c :: l, h => by
    obtain ⟨hc, hl⟩ := isRow_head h
    rw [num_cons]
    have hp : 0 < 2 ^ l.length := Nat.two_pow_pos _
    have ih := num_zero_iff l hl
    constructor
    · intro h0 i hi
      have h1 : (c.toNat - 48) * 2 ^ l.length = 0 := by omega
      have h2 : num l = 0 := by omega
      have h3 : c.toNat - 48 = 0 := by
        rcases Nat.mul_eq_zero.1 h1 with e | e
        · exact e
        · omega
      match i, hi with
      | 0, _ =>
        rcases hc with e | e
        · exact e
        · rw [e] at h3; cases h3
      | i + 1, hi => exact ih.1 h2 i (by simpa using hi)
    · intro h0
      have e0 : c = 48 := h0 0 (by simp)
      have e1 : num l = 0 := ih.2 fun i hi => h0 (i + 1) (by simpa using hi)
      rw [e0, e1, show ((48 : UInt8).toNat - 48) = 0 from rfl, Nat.zero_mul]
theorem tell_noughts (l : List UInt8) (p n : Nat) (h : p + n ≤ 8 * l.length) : tell l p n = 0 ↔ ∀ i, i < n → (showL l)[p + i]? = some 48 := by
  have hr := showL_row l
  have hl := showL_length l
  unfold tell
  generalize showL l = S at hr hl
  rw [num_zero_iff _ (isRow_take _ _ (isRow_drop _ _ hr))]
  have hlen : ((S.drop p).take n).length = n := by rw [List.length_take, List.length_drop]; omega
  constructor
  · intro h0 i hi
    have := h0 i (by omega)
    rw [List.getElem_take, List.getElem_drop] at this
    rw [List.getElem?_eq_getElem (by omega), this]
  · intro h0 i hi
    have := h0 i (by omega)
    rw [List.getElem?_eq_getElem (by omega)] at this
    rw [List.getElem_take, List.getElem_drop]
    exact Option.some.inj this

end

set_option maxHeartbeats 1000000 in
theorem rfill_page (s : ByteArray) (p : Nat) (hp : p ≤ 8 * s.size) (hs : s.size ≤ 1099511627776) (w : World) :
    Calls Try.prog 12 #[.string ⟨(showL s.data.toList).toArray⟩, .int .i64 (p : Int)] w fun e w' => e = .returned (.tuple #[.int .i64 (fillOf s.data.toList p).1, .int .i64 (fillOf s.data.toList p).2]) ∧ w = w' := by
  have hsl : s.data.toList.length = s.size := rfl
  have hsz := show_size s
  have hgf := gap_fits hp
  have htn := tell_noughts s.data.toList p (gap p) (by omega)
  have hbit : ∀ i, (h : p + i < (⟨(showL s.data.toList).toArray⟩ : ByteArray).size) → (showL s.data.toList)[p + i]? = some ((⟨(showL s.data.toList).toArray⟩ : ByteArray)[p + i]) := by
    intro i h
    rw [List.getElem?_eq_getElem (by rw [size_mk] at h; exact h)]
    rfl
  obtain ⟨g, hg⟩ : ∃ g, gap p = g := ⟨_, rfl⟩
  have hgd : ∀ j : Nat, j ≤ g → (((p : Int) + j) % 8 != 0) = decide (j < g) := by
    intro j hj
    rw [← hg] at hj ⊢
    unfold gap at hj ⊢
    rw [Bool.eq_iff_iff, bne_iff_ne, decide_eq_true_iff]
    omega
  have hof : fillOf s.data.toList p = if tell s.data.toList p g = 0 then ((g : Int), 0) else (0, 5) := by unfold fillOf; rw [hg]
  rw [hg] at hgf htn
  generalize (⟨(showL s.data.toList).toArray⟩ : ByteArray) = S at hsz hbit ⊢
  have GD := Lib.hid hgd
  have OF := Lib.hid hof
  have TN := Lib.hid htn
  have BT := Lib.hid hbit
  clear hgd hof htn hbit hg
  go_enter Try.func12, Try.ntmps12
  go_wp2
  go_loop [6] (fun i => ∃ j : Nat, j ≤ g ∧ i = .int .i64 j ∧ Hid (∀ k, k < j → (showL s.data.toList)[p + k]? = some 48)) (fun i => g - (intOf i).toNat)
  case atStart => exact ⟨0, Nat.zero_le _, rfl, Lib.hid fun k hk => absurd hk (Nat.not_lt_zero k)⟩
  case round =>
    obtain ⟨j, hj, rfl, H⟩ := hrel
    have hd := GD.out j hj
    by_cases hlt : j < g
    · have d0 : (((p : Int) + j) % 8 != 0) = true := by rw [hd]; simpa using hlt
      have hin : p + j < S.size := by omega
      have hb := BT.out j hin
      by_cases hc : S[p + j].toNat = 48
      · have c0 : ((S[p + j].toNat : Int) != 48) = false := by rw [hc]; rfl
        have he : S[p + j] = 48 := UInt8.toNat_inj.1 hc
        rw [he] at hb
        have N := Lib.hid (fun k (hk : k < j + 1) => (by
          rcases Nat.lt_or_ge k j with h | h
          · exact H.out k h
          · obtain rfl : k = j := by omega
            exact hb : (showL s.data.toList)[p + k]? = some 48))
        clear hb he hc hd
        go_wp2
        go_round
        case rel => exact ⟨j + 1, by omega, by go_num, N⟩
        case measure => simp [intOf]; omega
      · have c0 : ((S[p + j].toNat : Int) != 48) = true := by rw [bne_iff_ne]; omega
        have hne : tell s.data.toList p g ≠ 0 := by
          intro h0
          have := TN.out.1 h0 j hlt
          rw [hb] at this
          injection this with this
          exact hc (by rw [this]; rfl)
        have A := Lib.hid (OF.out.trans (if_neg hne))
        clear hb hc hd hne
        go_wp2
        go_ret2
        exact ⟨fill_pair A.out, rfl⟩
    · obtain rfl : j = g := by omega
      have d0 : (((p : Int) + j) % 8 != 0) = false := by rw [hd]; simp
      have A := Lib.hid (OF.out.trans (if_pos (TN.out.2 H.out)))
      clear hd
      go_wp2
      go_ret2
      exact ⟨fill_pair A.out, rfl⟩

theorem ask_a : ask [160] 0 3 = (5, 0) ∧ askTo [160] 0 3 = 3 ∧ fillOf [160] 3 = (5, 0) ∧ fillTo [160] 3 = 8 ∧ ask [160] 8 1 = (0, 2) ∧ askTo [160] 8 1 = 8 := by decide
set_option maxHeartbeats 1000000 in
theorem lives3 (w : World) : Calls Try.prog 6 #[] w fun e w' => e = .returned (.bool true) ∧ Below w.heap.size w w' := by
  obtain ⟨a1, a2, a3, a4, a5, a6⟩ := ask_a
  have hr0 : IsRd (w.alloc (rdObj ⟨#[160]⟩ 0)) w.heap.size ⟨#[160]⟩ 0 := IsRd.fresh rfl (by decide)
  have hb0 : Below w.heap.size w (w.alloc (rdObj ⟨#[160]⟩ 0)) := (Below.refl _ w).alloc (Nat.le_refl _) _
  have hz0 : (w.alloc (rdObj ⟨#[160]⟩ 0)).heap.size = w.heap.size + 1 := by simp
  go_enter Try.func6, Try.ntmps6
  go_wp2_with fail
  refine (rnew_code _ _).mono ?_
  rintro e w1 ⟨rfl, rfl⟩
  go_wp2_with fail
  refine (take_code _ _ _ _ _ hr0).mono ?_
  rintro e w1 ⟨rfl, hr1, hg1⟩
  rw [show (⟨#[160]⟩ : ByteArray).data.toList = [160] from rfl] at hr1 ⊢
  rw [a1]
  rw [a2] at hr1
  have hb1 := hb0.grown hg1 (by omega) (by intro k hk; injection hk with hk; omega)
  have hz1 := hb1.size
  go_wp2_with fail
  refine (rfill_code _ _ _ _ hr1).mono ?_
  rintro e w2 ⟨rfl, hr2, hg2⟩
  rw [show (⟨#[160]⟩ : ByteArray).data.toList = [160] from rfl] at hr2 ⊢
  rw [a3]
  rw [a4] at hr2
  have hb2 := hb1.grown hg2 (by omega) (by intro k hk; injection hk with hk; omega)
  have hz2 := hb2.size
  go_wp2_with fail
  refine (take_code _ _ _ _ _ hr2).mono ?_
  rintro e w3 ⟨rfl, hr3, hg3⟩
  rw [show (⟨#[160]⟩ : ByteArray).data.toList = [160] from rfl] at hr3 ⊢
  rw [a5]
  rw [a6] at hr3
  have hb3 := hb2.grown hg3 (by omega) (by intro k hk; injection hk with hk; omega)
  have hz3 := hb3.size
  go_wp2_with fail
  refine (left_code _ _ _ _ hr3).mono ?_
  rintro e w4 ⟨rfl, hb4⟩
  rw [show ((⟨#[160]⟩ : ByteArray).size : Int) = 1 from rfl]
  go_wp2
  go_ret
  exact ⟨rfl, hb3.trans (hb4.mono hz3)⟩
end Go.Proofs.Ytekpilodicnncaa
