/- What package mvd's Take gives, digit by digit. Conditions: a Reader of a text of at most 2^47 bytes; the variables hold their tables. -/
import Derived.Test.YtbooiedfocigfaaDoorDtake
namespace Go.Proofs.YtbooiedfocigfaaDoor
open Go.RowKit Go.Lib

theorem dget_nil (w : World) : Calls Tryd.prog 11 #[.pointer none] w fun e w' => e = .returned (.tuple #[.int .i64 0, .int .i64 1]) ∧ w = w' := by
  go_enter Tryd.func11, Tryd.ntmps11
  go_wp2
  go_loopw [4] (fun v wr => v = .int .i64 1 ∧ w = wr) (fun _ _ => 0)
  case atStart => exact ⟨rfl, rfl⟩
  case round =>
    obtain ⟨rfl, rfl⟩ := hrel
    go_wp2_with fail
    refine (peek_nil _ _).mono ?_
    rintro e w1 ⟨rfl, rfl⟩
    go_wp2
    go_ret2
    exact ⟨rfl, rfl⟩
/-- What the digits so far tell. -/
def DSeen (bs : List UInt8) (m : Nat) : Prop := tk rowsD bs 25 1 = tk rowsD bs (25 - m) (m + 1) ∧ noneD (bs.take m)
set_option maxRecDepth 100000 in
set_option maxHeartbeats 2000000 in
theorem dget_code (w : World) (rb : Nat) (s : ByteArray) (p : Nat) (hp : HasMvd w) (hr : IsRd w rb s p) :
    Calls Tryd.prog 11 #[.pointer (some ⟨rb, 0, none⟩)] w (DTake s rb p w) := by
  obtain ⟨bs, hbs⟩ : ∃ bs, (showL s.data.toList).drop p = bs := ⟨_, rfl⟩
  have hbl : bs.length = 8 * s.size - p := by rw [← hbs, List.length_drop, showL_length]; rfl
  have hrow : isRow bs = true := by rw [← hbs]; exact isRow_drop _ _ (showL_row _)
  have hsl : s.data.toList.length = s.size := rfl
  have hpl := hr.2.1
  have htell : ∀ n, tell s.data.toList p n = num (bs.take n) := fun n => by unfold tell; rw [hbs]
  have HBS := Lib.hid hbs
  have BL := Lib.hid hbl
  have ROW := Lib.hid hrow
  have TE := Lib.hid htell
  have HPP := Lib.hid (fun (x : World) (hx : Below w.heap.size w x) => (hp.below hx : HasMvd x))
  have HRR := Lib.hid (fun (x : World) (hx : Below w.heap.size w x) => (hr.below hx : IsRd x rb s p))
  have hb0 : Below w.heap.size w w := Below.refl _ _
  have hse : DSeen bs 0 := ⟨rfl, by rw [List.take_zero]; exact none_nil⟩
  have SE := Lib.hid hse
  clear hbs hbl hrow htell hp hr hse
  go_enter Tryd.func11, Tryd.ntmps11
  go_wp2
  go_loopw [4] (fun v wr => ∃ m : Nat, m < 12 ∧ v = .int .i64 ((m : Int) + 1) ∧ Below w.heap.size w wr ∧ Hid (DSeen bs m)) (fun v _ => 13 - (intOf v).toNat)
  case atStart => exact ⟨0, by omega, rfl, hb0, SE⟩
  case round =>
    clear hb0 SE
    obtain ⟨m, hm, rfl, hb, hse⟩ := hrel
    have hrr := HRR.out _ hb
    have hz := hb.size
    by_cases hsh : 8 * s.size < p + m + 1
    · have hask : ask s.data.toList p ((m : Int) + 1) = (0, 2) := ask_short (by omega) (by rw [hsl]; omega)
      have F := Lib.hid (gtk_not (all := allD) (b := bs) (n := 0) (f := 2) (hse.out.1.trans (by rw [show 25 - m = (24 - m) + 1 by omega]; exact tk_short (by rw [BL.out]; omega))) (by decide))
      have A := Lib.hid hask
      clear hask hsh
      go_wp2_with fail
      refine (peek_code _ _ _ _ ((m : Int) + 1) hrr).mono ?_
      rintro e w1 ⟨rfl, hb1⟩
      rw [A.out]
      have hb2 := hb.trans (hb1.mono hz)
      go_wp2
      go_ret2
      exact dtake_at (n := 0) (by rw [HBS.out]; exact F.out) (HRR.out _ hb2) (below_one hb2 rb)
    · obtain ⟨t, ht0⟩ : ∃ t, tell s.data.toList p (m + 1) = t := ⟨_, rfl⟩
      have hask : ask s.data.toList p ((m : Int) + 1) = ((t : Int), 0) := by
        rw [ask_ok (n := (m : Int) + 1) (by omega) (by rw [hsl]; omega), show ((m : Int) + 1).toNat = m + 1 by omega, ht0]
      have hq : num (bs.take (m + 1)) = t := by rw [← TE.out, ht0]
      have hln : m + 1 ≤ bs.length := by rw [BL.out]; omega
      have hql : (bs.take (m + 1)).length = m + 1 := by rw [List.length_take]; omega
      have hpre : ∀ i, i < 33 → begP t (m + 1) i = (bs.take (m + 1)).isPrefixOf (ampL i) := fun i hi => by
        have := begP_pre (isRow_take _ (m + 1) ROW.out) hi
        rwa [hq, hql] at this
      have A := Lib.hid hask
      have LN := Lib.hid hln
      have PRE := Lib.hid hpre
      have hcon := fun (x : World) (hx : HasMvd x) => beg_code t (m + 1) (by omega) x hx
      rw [show ((m + 1 : Nat) : Int) = (m : Int) + 1 by omega] at hcon
      clear hask hq hql hln hpre ht0
      go_wp2_with fail
      refine (peek_code _ _ _ _ ((m : Int) + 1) hrr).mono ?_
      rintro e w1 ⟨rfl, hb1⟩
      rw [A.out]
      have hb2 := hb.trans (hb1.mono hz)
      have hz2 := hb2.size
      have hp2 := HPP.out _ hb2
      have hr2 := HRR.out _ hb2
      clear hb hb1 hrr hz
      go_wp2_with fail
      refine (hcon _ hp2).mono ?_
      rintro e w2 ⟨⟨i, hi, hbeg, rfl⟩ | ⟨hno, rfl⟩, rfl⟩
      · rw [PRE.out i hi] at hbeg
        have c2 := (hp2 i hi).2
        have hl12 := (amount_fits i hi).2.1
        have hlen := pre_length hbeg
        rw [ampL_length, List.length_take, Nat.min_eq_left LN.out] at hlen
        by_cases hy : lenAt i = m + 1
        · have hd := diff_code i (m + 1) w1 rb s p hp2 hr2 hi hy (by omega) (by rw [HBS.out]; exact amp_take LN.out hbeg hy) (by rw [HBS.out, show 26 - (m + 1) = 25 - m by omega]; exact hse.out.1)
          have g0 : ((lenAt i : Int) == (m : Int) + 1) = true := by rw [beq_iff_eq]; omega
          have hg2 := below_one hb2 rb
          have DD := Lib.hid hd
          clear hbeg hl12 hlen hy hd
          generalize lenAt i = y at c2 g0
          go_wp2_with fail
          refine DD.out.mono ?_
          rintro e w3 ⟨rfl, hr3, hg3⟩
          go_wp2
          go_ret2
          exact ⟨rfl, hr3, grown_trans hg2 hg3⟩
        · obtain ⟨h1, h2⟩ := dtk_more (k := 24 - m) LN.out hse.out.2 hi hbeg hy
          have S2 : Hid (DSeen bs (m + 1)) := Lib.hid ⟨hse.out.1.trans (by rw [show 25 - m = (24 - m) + 1 by omega, h1, show 25 - (m + 1) = 24 - m by omega]), h2⟩
          have g0 : ((lenAt i : Int) == (m : Int) + 1) = false := by rw [beq_eq_false_iff_ne]; omega
          have hm2 : m + 1 < 12 := by omega
          clear hbeg hl12 hlen hy h1 h2
          generalize lenAt i = y at c2 g0
          go_wp2
          go_roundw
          case rel => exact ⟨m + 1, hm2, by go_num, hb2, S2⟩
          case measure => simp [intOf]; omega
      · have F := Lib.hid (gtk_not (all := allD) (b := bs) (n := 0) (f := 3) (hse.out.1.trans (by rw [show 25 - m = (24 - m) + 1 by omega]; exact dtk_none LN.out hse.out.2 (fun i hi => by rw [← PRE.out i hi]; exact hno i hi))) (by decide))
        go_wp2
        go_ret2
        exact dtake_at (n := 0) (by rw [HBS.out]; exact F.out) hr2 (below_one hb2 rb)
end Go.Proofs.YtbooiedfocigfaaDoor
