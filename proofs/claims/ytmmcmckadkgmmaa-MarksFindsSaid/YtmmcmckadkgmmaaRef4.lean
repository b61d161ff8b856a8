/- What the document's own answers for package marks tell, and that the chapter's example comes out. Conditions: texts of at most 2^40 bytes. -/
import Derived.Test.YtmmcmckadkgmmaaFind
import Derived.Test.YtmmcmckadkgmmaaLead
namespace Go.Proofs.Ytmmcmckadkgmmaa
open Go.RowKit

theorem mark_split (l : List UInt8) (p : Nat) (h : p + 22 ≤ 8 * l.length) : tell l p 22 / 32 = tell l p 17 ∧ tell l p 22 % 32 = tell l (p + 17) 5 := by
  have e := tell_more l p 17 5 (by omega)
  have h5 := tell_lt l (p + 17) 5
  have e2 : tell l p 22 = tell l p (17 + 5) := rfl
  omega
theorem head_row (l : List UInt8) (p : Nat) (h : p + 22 ≤ 8 * l.length) : ((l |> showL).drop p).take 17 = rowOf (tell l p 17) 17 := by
  have hr : isRow (((showL l).drop p).take 17) = true := isRow_take _ _ (isRow_drop _ _ (showL_row l))
  have hl : (((showL l).drop p).take 17).length = 17 := by
    have := showL_length l
    rw [List.length_take, List.length_drop]; omega
  have e := row_num _ hr
  rw [hl] at e
  exact e.symm
theorem head_yes (l : List UInt8) (p : Nat) (h : p + 22 ≤ 8 * l.length) (h1 : tell l p 22 / 32 = 1) :
    (!((showL l).drop p).take 17 == [48, 48, 48, 48, 48, 48, 48, 48, 48, 48, 48, 48, 48, 48, 48, 48, 49]) = false := by
  rw [(mark_split l p h).1] at h1
  rw [show ((showL l).drop p).take 17 = rowOf (tell l p 17) 17 from head_row l p h, h1]
  rfl
theorem head_no (l : List UInt8) (p : Nat) (h : p + 22 ≤ 8 * l.length) (h1 : tell l p 22 / 32 ≠ 1) :
    (!((showL l).drop p).take 17 == [48, 48, 48, 48, 48, 48, 48, 48, 48, 48, 48, 48, 48, 48, 48, 48, 49]) = true := by
  rw [Bool.not_eq_true', beq_eq_false_iff_ne]
  intro he
  apply h1
  rw [(mark_split l p h).1]
  unfold tell
  rw [he]
  rfl
set_option maxHeartbeats 1000000 in
theorem mat_page (s : ByteArray) (bit : Int) (hs : s.size ≤ 1099511627776) (w : World) :
    Calls Try.prog 9 #[.string ⟨(showL s.data.toList).toArray⟩, .int .i64 bit] w fun e w' => e = .returned (.tuple #[.int .i64 (markAt s.data.toList bit).1, .int .i64 (markAt s.data.toList bit).2]) ∧ w = w' := by
  have hsl : s.data.toList.length = s.size := rfl
  have hsz := show_size s
  by_cases h1 : bit < 0
  · have A := Lib.hid (mark_arg (l := s.data.toList) (bit := bit) (.inl h1))
    go_enter Try.func9, Try.ntmps9
    go_wp2
    go_ret2
    exact ⟨mark_pair A.out, rfl⟩
  · have d1 : decide (bit < 0) = false := by simpa using h1
    by_cases h2 : 8 * (s.size : Int) < bit
    · have A := Lib.hid (mark_arg (l := s.data.toList) (bit := bit) (.inr (by rw [hsl]; exact h2)))
      have Z := Lib.hid hsz
      generalize (⟨(showL s.data.toList).toArray⟩ : ByteArray) = S at Z ⊢
      have hz := Z.out
      have d2 : decide ((S.size : Int) < bit) = true := by simp; omega
      clear hsz Z
      go_enter Try.func9, Try.ntmps9
      go_wp2
      go_ret2
      exact ⟨mark_pair A.out, rfl⟩
    · obtain ⟨p, rfl⟩ := Int.eq_ofNat_of_zero_le (by omega : 0 ≤ bit)
      have hp : p ≤ 8 * s.size := by omega
      clear h1 h2
      by_cases h3 : 8 * s.size < p + 22
      · have A := Lib.hid (mark_short (l := s.data.toList) (p := p) (by rw [hsl]; exact hp) (by rw [hsl]; exact h3))
        have Z := Lib.hid hsz
        generalize (⟨(showL s.data.toList).toArray⟩ : ByteArray) = S at Z ⊢
        have hz := Z.out
        have d2 : decide ((S.size : Int) < (p : Int)) = false := by simp; omega
        have d3 : decide ((S.size : Int) - p < 22) = true := by simp; omega
        clear hsz Z
        go_enter Try.func9, Try.ntmps9
        go_wp2
        go_ret2
        exact ⟨mark_pair A.out, rfl⟩
      · have A := Lib.hid (mark_in (l := s.data.toList) (p := p) (by rw [hsl]; omega))
        have hcut := show_cut s p 17
        have hcut2 := show_cut s (p + 17) 5
        generalize (⟨(showL s.data.toList).toArray⟩ : ByteArray) = S at hsz hcut hcut2 ⊢
        have d2 : decide ((S.size : Int) < (p : Int)) = false := by simp; omega
        have d3 : decide ((S.size : Int) - p < 22) = false := by simp; omega
        have hin : p + 22 ≤ 8 * s.data.toList.length := by rw [hsl]; omega
        by_cases h4 : tell s.data.toList p 22 / 32 = 1
        · have A2 := Lib.hid (A.out.trans (if_pos h4))
          have hy := head_yes _ p hin h4
          have hrow : isRow (List.take 5 (List.drop (p + 17) (showL s.data.toList))) = true := isRow_take _ _ (isRow_drop _ _ (showL_row _))
          have hlen : (List.take 5 (List.drop (p + 17) (showL s.data.toList))).length ≤ 32 := by rw [List.length_take]; omega
          have hnum : num (List.take 5 (List.drop (p + 17) (showL s.data.toList))) = tell s.data.toList p 22 % 32 := (mark_split _ p hin).2.symm
          have HR := Lib.hid hrow
          have HL := Lib.hid hlen
          have HN := Lib.hid hnum
          clear hsl hin h4 hrow hlen hnum A
          go_enter Try.func9, Try.ntmps9
          go_wp2_with fail
          refine (number_page ⟨(List.take 5 (List.drop (p + 17) (showL s.data.toList))).toArray⟩ (by rw [size_mk]; exact HL.out) HR.out _).mono ?_
          rintro e w1 ⟨rfl, rfl⟩
          rw [show (⟨(List.take 5 (List.drop (p + 17) (showL s.data.toList))).toArray⟩ : ByteArray).data.toList = List.take 5 (List.drop (p + 17) (showL s.data.toList)) from rfl, HN.out]
          go_wp2
          go_ret2
          exact ⟨mark_pair A2.out, rfl⟩
        · have A2 := Lib.hid (A.out.trans (if_neg h4))
          have hy := head_no _ p hin h4
          clear hsl hin h4 A
          go_enter Try.func9, Try.ntmps9
          go_wp2
          go_ret2
          exact ⟨mark_pair A2.out, rfl⟩

/-- The bits that a text shows, one by one. -/
theorem show_bit (s : ByteArray) (i : Nat) (h : i < (⟨(showL s.data.toList).toArray⟩ : ByteArray).size) : (showL s.data.toList)[i]? = some ((⟨(showL s.data.toList).toArray⟩ : ByteArray)[i]) := by
  rw [List.getElem?_eq_getElem (by rw [size_mk] at h; exact h)]
  rfl
set_option maxHeartbeats 1000000 in
theorem zeros_page (s : ByteArray) (bit : Int) (hs : s.size ≤ 1099511627776) (hm : bit ≤ 9223372036854775807) (w : World) :
    Calls Try.prog 13 #[.string ⟨(showL s.data.toList).toArray⟩, .int .i64 bit] w fun e w' => e = .returned (.int .i64 ((noughts s.data.toList bit : Nat) : Int)) ∧ w = w' := by
  have hsl : s.data.toList.length = s.size := rfl
  have hsz := show_size s
  have hbit := show_bit s
  by_cases h1 : bit < 0
  · have A := Lib.hid (noughts_less (l := s.data.toList) h1)
    have d1 : decide (0 ≤ bit) = false := by simpa using h1
    clear hbit hsz
    go_enter Try.func13, Try.ntmps13
    go_wp2
    go_loop [5] (fun n => n = .int .i64 0) (fun _ => 0)
    case atStart => exact rfl
    case round =>
      obtain rfl := hrel
      go_wp2
      go_ret
      exact ⟨ret_int (by rw [A.out]; rfl), rfl⟩
  · have d1 : decide (0 ≤ bit) = true := by simp; omega
    by_cases h2 : 8 * (s.size : Int) ≤ bit
    · have A := Lib.hid (noughts_over (l := s.data.toList) (bit := bit) (by rw [hsl]; exact h2))
      have Z := Lib.hid hsz
      clear hbit
      generalize (⟨(showL s.data.toList).toArray⟩ : ByteArray) = S at Z ⊢
      have hz := Z.out
      have d2 : decide (0 < (S.size : Int) - bit) = false := by simp; omega
      clear hsz Z
      go_enter Try.func13, Try.ntmps13
      go_wp2
      go_loop [5] (fun n => n = .int .i64 0) (fun _ => 0)
      case atStart => exact rfl
      case round =>
        obtain rfl := hrel
        go_wp2
        go_ret
        exact ⟨ret_int (by rw [A.out]; rfl), rfl⟩
    · obtain ⟨p, rfl⟩ := Int.eq_ofNat_of_zero_le (by omega : 0 ≤ bit)
      have hp : p < 8 * s.size := by omega
      have hfin : ∀ n, (∀ i, i < n → (showL s.data.toList)[p + i]? = some 48) → (showL s.data.toList)[p + n]? ≠ some 48 → noughts s.data.toList p = n := fun n h h2 => noughts_are h h2
      have hend : (showL s.data.toList)[8 * s.size]? = none := List.getElem?_eq_none (by rw [showL_length, hsl]; exact Nat.le_refl _)
      have F := Lib.hid hfin
      have E := Lib.hid hend
      have BT := Lib.hid hbit
      clear h1 h2 hfin hbit hend
      generalize (⟨(showL s.data.toList).toArray⟩ : ByteArray) = S at hsz BT ⊢
      go_enter Try.func13, Try.ntmps13
      go_wp2
      go_loop [5] (fun n => ∃ j : Nat, p + j ≤ S.size ∧ n = .int .i64 j ∧ Hid (∀ i, i < j → (showL s.data.toList)[p + i]? = some 48)) (fun n => S.size - (intOf n).toNat)
      case atStart => exact ⟨0, by omega, rfl, Lib.hid fun i hi => absurd hi (Nat.not_lt_zero i)⟩
      case round =>
        obtain ⟨j, hj, rfl, H⟩ := hrel
        by_cases hlt : p + j < S.size
        · have d2 : decide ((j : Int) < (S.size : Int) - p) = true := by simp; omega
          have hb := BT.out (p + j) hlt
          by_cases hc : S[p + j].toNat = 48
          · have c0 : ((S[p + j].toNat : Int) == 48) = true := by rw [hc]; rfl
            have he : S[p + j] = 48 := UInt8.toNat_inj.1 hc
            rw [he] at hb
            have N := Lib.hid (fun k (hk : k < j + 1) => (by
              rcases Nat.lt_or_ge k j with h | h
              · exact H.out k h
              · obtain rfl : k = j := by omega
                exact hb : (showL s.data.toList)[p + k]? = some 48))
            clear hb he hc
            go_wp2
            go_round
            case rel => exact ⟨j + 1, by omega, by go_num, N⟩
            case measure => simp [intOf]; omega
          · have c0 : ((S[p + j].toNat : Int) == 48) = false := by rw [beq_eq_false_iff_ne]; omega
            have A := Lib.hid (F.out j H.out (by
              rw [hb]
              intro h
              injection h with h
              exact hc (by rw [h]; rfl)))
            clear hb hc
            go_wp2
            go_ret
            exact ⟨ret_int (by rw [A.out]), rfl⟩
        · have d2 : decide ((j : Int) < (S.size : Int) - p) = false := by simp; omega
          have A := Lib.hid (F.out j H.out (by
            rw [show p + j = 8 * s.size by omega, E.out]
            intro h
            cases h))
          go_wp2
          go_ret
          exact ⟨ret_int (by rw [A.out]), rfl⟩

set_option maxHeartbeats 1000000 in
theorem mnext_page (s : ByteArray) (bit : Int) (hs : s.size ≤ 1099511627776) (w : World) :
    Calls Try.prog 11 #[.string ⟨(showL s.data.toList).toArray⟩, .int .i64 bit] w fun e w' => e = .returned (.tuple #[.int .i64 (nextOf s.data.toList bit).1, .bool (nextOf s.data.toList bit).2]) ∧ w = w' := by
  have hsl : s.data.toList.length = s.size := rfl
  have hsz := show_size s
  have hbit := show_bit s
  have hmat := mat_page s
  by_cases h1 : bit < 0
  · have A := Lib.hid (next_arg (l := s.data.toList) (bit := bit) (.inl h1))
    clear hsz hbit hmat
    go_enter Try.func11, Try.ntmps11
    go_wp2
    go_ret2
    exact ⟨next_pair A.out, rfl⟩
  · have d1 : decide (bit < 0) = false := by simpa using h1
    by_cases h2 : 8 * (s.size : Int) < bit
    · have A := Lib.hid (next_arg (l := s.data.toList) (bit := bit) (.inr (by rw [hsl]; exact h2)))
      have Z := Lib.hid hsz
      clear hbit hmat
      generalize (⟨(showL s.data.toList).toArray⟩ : ByteArray) = S at Z ⊢
      have hz := Z.out
      have d2 : decide ((S.size : Int) < bit) = true := by simp; omega
      clear hsz Z
      go_enter Try.func11, Try.ntmps11
      go_wp2
      go_ret2
      exact ⟨next_pair A.out, rfl⟩
    · obtain ⟨p, rfl⟩ := Int.eq_ofNat_of_zero_le (by omega : 0 ≤ bit)
      have hp : p ≤ 8 * s.size := by omega
      have hgf := gap_fits hp
      have htn := tell_noughts s.data.toList p (gap p) (by rw [hsl]; exact hgf)
      have hyes := fun h => next_in (l := s.data.toList) (p := p) (by rw [hsl]; exact hp) h
      have hno := fun h => next_not (l := s.data.toList) (p := p) (by rw [hsl]; exact hp) h
      obtain ⟨g, hg⟩ : ∃ g, gap p = g := ⟨_, rfl⟩
      have hgd : ∀ j : Nat, j ≤ g → (((p : Int) + j) % 8 != 0) = decide (j < g) := by
        intro j hj
        rw [← hg] at hj ⊢
        unfold gap at hj ⊢
        rw [Bool.eq_iff_iff, bne_iff_ne, decide_eq_true_iff]
        omega
      rw [hg] at hgf htn hyes hno
      have GD := Lib.hid hgd
      have TN := Lib.hid htn
      have BT := Lib.hid hbit
      have Y := Lib.hid hyes
      have NO := Lib.hid hno
      have MP := Lib.hid hmat
      clear h1 h2 hgd htn hbit hyes hno hmat hg
      generalize (⟨(showL s.data.toList).toArray⟩ : ByteArray) = S at hsz BT MP ⊢
      have d2 : decide ((S.size : Int) < (p : Int)) = false := by simp; omega
      go_enter Try.func11, Try.ntmps11
      go_wp2
      go_loop [1] (fun i => ∃ j : Nat, j ≤ g ∧ i = .int .i64 ((p : Int) + j) ∧ Hid (∀ k, k < j → (showL s.data.toList)[p + k]? = some 48)) (fun i => p + g - (intOf i).toNat)
      case atStart => exact ⟨0, Nat.zero_le _, by simp, Lib.hid fun k hk => absurd hk (Nat.not_lt_zero k)⟩
      case round =>
        obtain ⟨j, hj, rfl, H⟩ := hrel
        have hd := GD.out j hj
        by_cases hlt : j < g
        · have d0 : (((p : Int) + j) % 8 != 0) = true := by rw [hd]; simpa using hlt
          have hin : p + j < S.size := by omega
          have hb := BT.out (p + j) hin
          by_cases hc : S[p + j].toNat = 48
          · have c0 : ((S[p + j].toNat : Int) != 48) = false := by rw [hc]; rfl
            have he : S[p + j] = 48 := UInt8.toNat_inj.1 hc
            rw [he] at hb
            have N := Lib.hid (fun k (hk : k < j + 1) => (by
              rcases Nat.lt_or_ge k j with h | h
              · exact H.out k h
              · obtain rfl : k = j := by omega
                exact hb : (showL s.data.toList)[p + k]? = some 48))
            clear hb he hc hd
            go_wp2
            go_round
            case rel => exact ⟨j + 1, by omega, by go_num, N⟩
            case measure => simp [intOf]; omega
          · have c0 : ((S[p + j].toNat : Int) != 48) = true := by rw [bne_iff_ne]; omega
            have A := Lib.hid (NO.out fun h0 => by
              have := TN.out.1 h0 j hlt
              rw [hb] at this
              injection this with this
              exact hc (by rw [this]; rfl))
            clear hb hc hd
            go_wp2
            go_ret2
            exact ⟨next_pair A.out, rfl⟩
        · obtain rfl : j = g := by omega
          have d0 : (((p : Int) + j) % 8 != 0) = false := by rw [hd]; simp
          have A := Lib.hid (Y.out (TN.out.2 H.out))
          clear hd
          go_wp2_with fail
          rw [show (p : Int) + (j : Int) = ((p + j : Nat) : Int) by omega]
          refine (MP.out _ hs _).mono ?_
          rintro e w1 ⟨rfl, rfl⟩
          go_wp2
          go_ret2
          exact ⟨next_pair A.out, rfl⟩

set_option maxHeartbeats 1000000 in
theorem find_page (s : ByteArray) (start : Int) (hs : s.size ≤ 1099511627776) (w : World) :
    Calls Try.prog 15 #[.string ⟨(showL s.data.toList).toArray⟩, .int .i64 start] w fun e w' => FindsE s.data.toList start e ∧ w = w' := by
  have hsl : s.data.toList.length = s.size := rfl
  have hsz := show_size s
  have hmat := mat_page s
  have MP := Lib.hid hmat
  clear hmat
  generalize (⟨(showL s.data.toList).toArray⟩ : ByteArray) = S at hsz MP ⊢
  go_enter Try.func15, Try.ntmps15
  go_wp2
  go_loop [7] (fun x => ∃ i : Nat, i ≤ s.size ∧ x = .int .i64 i ∧ Hid (∀ k : Nat, start ≤ k → k < i → hit s.data.toList k = false)) (fun x => s.size - (intOf x).toNat)
  case atStart => exact ⟨0, Nat.zero_le _, rfl, Lib.hid fun k _ h => absurd h (Nat.not_lt_zero k)⟩
  case round =>
    obtain ⟨i, hi, rfl, N⟩ := hrel
    by_cases hlt : i < s.size
    · have d0 : decide (8 * (i : Int) < (S.size : Int)) = true := by simp; omega
      go_wp2_with fail
      rw [show (8 : Int) * (i : Int) = ((8 * i : Nat) : Int) by omega]
      refine (MP.out _ hs _).mono ?_
      rintro e w1 ⟨rfl, rfl⟩
      obtain ⟨n, hn⟩ : ∃ n, (markAt s.data.toList ((8 * i : Nat) : Int)).1 = n := ⟨_, rfl⟩
      obtain ⟨c, hc⟩ : ∃ c, (markAt s.data.toList ((8 * i : Nat) : Int)).2 = c := ⟨_, rfl⟩
      rw [hn, hc]
      have H : Hid (hit s.data.toList i = (c == 0 && (n == 0 || n == 31))) := Lib.hid (by unfold hit; rw [hn, hc])
      have NN := Lib.hid hn
      clear hn hc
      by_cases h0 : start ≤ (i : Int)
      · have d1 : decide (start ≤ (i : Int)) = true := by simpa using h0
        by_cases hh : hit s.data.toList i = true
        · have hcn := hh
          rw [H.out, Bool.and_eq_true, beq_iff_eq] at hcn
          obtain ⟨rfl, hcn⟩ := hcn
          have F : Hid (Finds s.data.toList start (i : Int) n true) := Lib.hid (.inl ⟨rfl, i, rfl, h0, hh, NN.out.symm, N.out⟩)
          clear hh
          cases hn0 : (n == 0) with
          | true =>
            clear hcn
            go_wp2
            go_ret3
            exact ⟨⟨_, _, _, rfl, F.out⟩, rfl⟩
          | false =>
            rw [hn0, Bool.false_or] at hcn
            go_wp2
            go_ret3
            exact ⟨⟨_, _, _, rfl, F.out⟩, rfl⟩
        · have hno : hit s.data.toList i = false := by simpa using hh
          have N2 := Lib.hid (fun (k : Nat) (h1 : start ≤ (k : Int)) (h2 : k < i + 1) => (by
            rcases Nat.lt_or_ge k i with h | h
            · exact N.out k h1 h
            · rw [show k = i by omega]; exact hno : hit s.data.toList k = false))
          have hcn := hno
          rw [H.out] at hcn
          clear hno hh
          cases hc0 : (c == 0) with
          | false =>
            clear hcn
            go_wp2
            go_round
            case rel => exact ⟨i + 1, by omega, by go_num, N2⟩
            case measure => simp [intOf]; omega
          | true =>
            rw [hc0, Bool.true_and, Bool.or_eq_false_iff] at hcn
            obtain ⟨hn0, hn31⟩ := hcn
            go_wp2
            go_round
            case rel => exact ⟨i + 1, by omega, by go_num, N2⟩
            case measure => simp [intOf]; omega
      · have d1 : decide (start ≤ (i : Int)) = false := by simpa using h0
        have N2 := Lib.hid (fun (k : Nat) (h1 : start ≤ (k : Int)) (h2 : k < i + 1) => (by omega : hit s.data.toList k = false))
        go_wp2
        go_round
        case rel => exact ⟨i + 1, by omega, by go_num, N2⟩
        case measure => simp [intOf]; omega
    · obtain rfl : i = s.size := by omega
      have d0 : decide (8 * (s.size : Int) < (S.size : Int)) = false := by simp; omega
      have hfin : Finds s.data.toList start 0 0 false := .inr ⟨rfl, rfl, rfl, fun k hk => by
        rcases Nat.lt_or_ge k s.size with h | h
        · exact N.out k hk h
        · exact hit_short (by rw [hsl]; omega)⟩
      have F := Lib.hid hfin
      clear hfin
      go_wp2
      go_ret3
      exact ⟨⟨_, _, _, rfl, F.out⟩, rfl⟩

theorem marks_a : markAt [0, 0, 128] 0 = (0, 0) ∧ markAt [0, 0, 128] 8 = (0, 2) ∧ noughts [0, 0, 128] 0 = 16 := by decide
set_option maxHeartbeats 1000000 in
theorem lives4 (w : World) : Calls Try.prog 6 #[] w fun e w' => e = .returned (.bool true) ∧ Below w.heap.size w w' := by
  obtain ⟨a1, a2, a3⟩ := marks_a
  go_enter Try.func6, Try.ntmps6
  go_wp2_with fail
  refine (mat_code _ ⟨#[0, 0, 128]⟩ 0 (by decide)).mono ?_
  rintro e w1 ⟨rfl, hb1⟩
  rw [show (⟨#[0, 0, 128]⟩ : ByteArray).data.toList = [0, 0, 128] from rfl, a1]
  have hz1 := hb1.size
  go_wp2_with fail
  refine (mat_code _ ⟨#[0, 0, 128]⟩ 8 (by decide)).mono ?_
  rintro e w2 ⟨rfl, hb2⟩
  rw [show (⟨#[0, 0, 128]⟩ : ByteArray).data.toList = [0, 0, 128] from rfl, a2]
  have hz2 := hb2.size
  go_wp2_with fail
  refine (zeros_code _ ⟨#[0, 0, 128]⟩ 0 (by decide)).mono ?_
  rintro e w3 ⟨rfl, hb3⟩
  rw [show (⟨#[0, 0, 128]⟩ : ByteArray).data.toList = [0, 0, 128] from rfl, a3]
  go_wp2
  go_ret
  exact ⟨rfl, hb1.trans ((hb2.mono hz1).trans (hb3.mono (by omega)))⟩
end Go.Proofs.Ytmmcmckadkgmmaa
