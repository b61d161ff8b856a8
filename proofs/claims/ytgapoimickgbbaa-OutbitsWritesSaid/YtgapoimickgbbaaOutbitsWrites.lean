/- Whatever a Writer of package outbits is asked, one from New, a zero one and nil: it has just the bits that the document's own answers tell, and what may not be changes nothing; and the chapter's examples come out. Conditions: none but the law's own (up to 60 acts, rows of up to 200 digits). -/
import Derived.Test.YtgapoimickgbbaaRows
import Derived.Test.YtgapoimickgbbaaPack
import Derived.ChangeMaps5
import Derived.Deep.DeepCutAuto
import Derived.Deep.CutRange
import Derived.Deep.Slices
namespace Go.Proofs.Ytgapoimickgbbaa
open Go.ChangeShapes Go.WideShapes Go.ChangeAt Go.RowKit
set_option linter.unusedVariables false

/-- One act in memory. -/
def ActAt (W : World) (b o : Nat) : Prop :=
  ∃ (k v n : Int) (s : ByteArray), W.cell? ⟨b, o, none⟩ = some (.int .i64 k) ∧ W.cell? ⟨b, o + 1, none⟩ = some (.int .i64 v) ∧ W.cell? ⟨b, o + 2, none⟩ = some (.int .i64 n) ∧ W.cell? ⟨b, o + 3, none⟩ = some (.string s) ∧
    v ≤ 9223372036854775807 ∧ s.size ≤ 9223372036854775807
/-- The acts that came in. -/
def ActsAt (W : World) (p : Option Addr) (len : Nat) : Prop := len = 0 ∨ ∃ b o, p = some ⟨b, o, none⟩ ∧ b < W.heap.size ∧ ∀ i, i < len → ActAt W b (o + i * 4)

/-- Both writers hold the same row, and nothing that was there has turned. -/
def WInv (W : World) (all : List UInt8) (x : World) : Prop :=
  isRow all = true ∧ IsWr x (W.heap.size + 2) W.heap.size all ∧ IsWr x (W.heap.size + 2) (W.heap.size + 1) all ∧ Below W.heap.size W x ∧ W.heap.size + 2 ≤ x.heap.size

/-- The act's own block, laid by the round. -/
def actBlk (k v n : Int) (s : ByteArray) : Obj := .cells [Value.int .i64 k, .int .i64 v, .int .i64 n, .string s].toArray 40 (0, 0)
/-- What stands while a round runs: both writers hold the text in the slot, of at most m digits; the act lies in block h. -/
def WMid (W : World) (h : Nat) (k v n : Int) (s : ByteArray) (m : Nat) (t : Value) (x : World) : Prop :=
  ∃ all : List UInt8, t = .string ⟨all.toArray⟩ ∧ all.length ≤ m ∧ WInv W all x ∧ W.heap.size + 2 ≤ h ∧ x.heap[h]? = some (actBlk k v n s)

theorem WMid.mono {W : World} {h : Nat} {k v n : Int} {s : ByteArray} {m m' : Nat} {t : Value} {x : World} (hm : m ≤ m') (i : WMid W h k v n s m t x) : WMid W h k v n s m' t x := by
  obtain ⟨all, h1, h2, h3⟩ := i
  exact ⟨all, h1, by omega, h3⟩
theorem WInv.below {W x x' : World} {all : List UInt8} (i : WInv W all x) (b : Below x.heap.size x x') : WInv W all x' := by
  obtain ⟨h1, h2, h3, h4, h5⟩ := i
  have := b.size
  exact ⟨h1, h2.below b, h3.below b, h4.trans (b.mono (by have := h4.size; omega)), by omega⟩
/-- Both writers did the same. -/
theorem WInv.both {W x x1 x2 : World} {all more : List UInt8} (i : WInv W all x) (hr : isRow more = true) (h1 : IsWr x1 (W.heap.size + 2) W.heap.size more) (g1 : x.grownBy x1 (some W.heap.size))
    (h2 : IsWr x2 (W.heap.size + 2) (W.heap.size + 1) more) (g2 : x1.grownBy x2 (some (W.heap.size + 1))) : WInv W more x2 := by
  obtain ⟨_, _, _, h4, h5⟩ := i
  have s1 := g1.size
  have s2 := g2.size
  have b1 : Below W.heap.size W x1 := h4.grown g1 (by omega) (by intro k hk; injection hk with hk; omega)
  exact ⟨hr, h1.grown g2 (by omega) (by omega), h2, b1.grown g2 (by omega) (by intro k hk; injection hk with hk; omega), by omega⟩
theorem act_kept {x x' : World} {c h : Nat} {o : Obj} (g : x.grownBy x' (some c)) (hne : h ≠ c) (hh : x.heap[h]? = some o) : x'.heap[h]? = some o := by
  rw [g.block h (Array.getElem?_eq_some_iff.1 hh).1 (by simpa using hne)]; exact hh
theorem act_below {x x' : World} {h : Nat} {o : Obj} (b : Below x.heap.size x x') (hh : x.heap[h]? = some o) : x'.heap[h]? = some o := by
  rw [b.block h (Array.getElem?_eq_some_iff.1 hh).1]; exact hh
theorem act_cells {x : World} {h : Nat} {k v n : Int} {s : ByteArray} (hh : x.heap[h]? = some (actBlk k v n s)) :
    x.cell? ⟨h, 0, none⟩ = some (.int .i64 k) ∧ x.cell? ⟨h, 1, none⟩ = some (.int .i64 v) ∧ x.cell? ⟨h, 2, none⟩ = some (.int .i64 n) ∧ x.cell? ⟨h, 3, none⟩ = some (.string s) :=
  ⟨part_cells hh rfl, part_cells hh rfl, part_cells hh rfl, part_cells hh rfl⟩

set_option maxRecDepth 100000 in
set_option maxHeartbeats 8000000 in
theorem outbitsWrites_walk (p : Option Addr) (len cap : Nat) (w : World) (ha : ActsAt w p len) (hm : len ≤ 9223372036854775807) :
    Calls Try.prog 4 #[.slice p len cap] w fun e w' => e = .returned (.bool true) ∧ Below w.heap.size w w' := by
  by_cases hl : 60 < len
  · go_enter Try.func4, Try.ntmps4
    go_wp2_with (go_at_call 6; refine (lives2 _).mono ?_; rintro e w' ⟨rfl, hb⟩)
    go_ret
    exact ⟨rfl, hb⟩
  · obtain ⟨Z, hz1, hz2⟩ := wr_zero
    have hw0 : IsWr (w.alloc newWr) (w.heap.size + 2) w.heap.size [] := IsWr.fresh rfl (by omega)
    have hw1 : IsWr ((w.alloc newWr).alloc newWr) (w.heap.size + 2) (w.heap.size + 1) [] := IsWr.fresh (by simp) (by omega)
    have hinv : WInv w [] ((w.alloc newWr).alloc newWr) :=
      ⟨rfl, hw0.below ((Below.refl _ _).alloc (Nat.le_refl _) _), hw1, ((Below.refl _ w).alloc (Nat.le_refl _) _).alloc (by simp) _, by simp⟩
    clear hw0 hw1
    go_enter Try.func4, Try.ntmps4
    go_wp2_with fail
    refine (new_code _).mono ?_
    rintro e w1 ⟨rfl, rfl⟩
    go_wp2_with fail
    have hinv : WInv w [] ((w.alloc newWr).alloc (.cells Z 38)) := by rw [hz2.out]; exact hinv
    go_loopw [6, 7] (fun t i wr => ∃ (j : Nat) (all : List UInt8), j ≤ len ∧ i = .int .i64 j ∧ t = .string ⟨all.toArray⟩ ∧ all.length ≤ 207 * j ∧ WInv w all wr) (fun _ i _ => len - (intOf i).toNat)
    case atStart => exact ⟨0, [], Nat.zero_le _, rfl, rfl, by simp, hinv⟩
    case round =>
      clear hinv hz1 hz2
      obtain ⟨j, all, hj, rfl, rfl, hal, hinv⟩ := hrel
      obtain ⟨hrow, hwr, hzr, hbw, hsz⟩ := hinv
      by_cases hlt : j < len
      · obtain ⟨b, o, rfl, hblt, hacts⟩ : ∃ b o, p = some ⟨b, o, none⟩ ∧ b < w.heap.size ∧ ∀ i, i < len → ActAt w b (o + i * 4) := by
          rcases ha with h | h
          · omega
          · exact h
        obtain ⟨k, v, n, s, c0, c1, c2, c3, hv, hs⟩ := hacts j hlt
        have hblk := hbw.block b hblt
        have e0 : wr.cell? ⟨b, o + j * 4, none⟩ = some (.int .i64 k) := (World.cell?_of_block (a := ⟨b, o + j * 4, none⟩) hblk).trans c0
        have e1 : wr.cell? ⟨b, o + j * 4 + 1, none⟩ = some (.int .i64 v) := (World.cell?_of_block (a := ⟨b, o + j * 4 + 1, none⟩) hblk).trans c1
        have e2 : wr.cell? ⟨b, o + j * 4 + 2, none⟩ = some (.int .i64 n) := (World.cell?_of_block (a := ⟨b, o + j * 4 + 2, none⟩) hblk).trans c2
        have e3 : wr.cell? ⟨b, o + j * 4 + 3, none⟩ = some (.string s) := (World.cell?_of_block (a := ⟨b, o + j * 4 + 3, none⟩) hblk).trans c3
        clear hblk c0 c1 c2 c3 hacts ha
        have R := Lib.hid hrow
        clear hrow
        by_cases hlong : 200 < s.size
        · go_wp2_with (go_at_call 6; refine (lives2 _).mono ?_; rintro e w' ⟨rfl, hb6⟩)
          go_ret
          exact ⟨rfl, (hbw.alloc (by omega) _).trans (hb6.mono (by simp; omega))⟩
        · obtain ⟨h, hh⟩ : ∃ h, wr.heap.size = h := ⟨_, rfl⟩
          have hs2 : s.size ≤ 200 := by omega
          have hst : WMid w h k v n s (207 * j) (.string ⟨all.toArray⟩) (wr.alloc (actBlk k v n s)) := by
            subst hh
            exact ⟨all, rfl, hal, ⟨R.out, hwr.below ((Below.refl _ _).alloc (Nat.le_refl _) _), hzr.below ((Below.refl _ _).alloc (Nat.le_refl _) _), hbw.alloc (by omega) _, by simp; omega⟩, hsz, heap_alloc_new _ _⟩
          obtain ⟨m1, hm1, hm2, hm3⟩ : ∃ m1, (207 * j ≤ m1) ∧ (k = 0 → 207 * j + 32 ≤ m1) ∧ m1 ≤ 207 * j + 32 ∧ (k ≠ 0 → m1 = 207 * j) := by
            by_cases h0 : k = 0
            · exact ⟨207 * j + 32, by omega, by omega, by omega, by omega⟩
            · exact ⟨207 * j, by omega, by omega, by omega, by omega⟩
          clear hlong hwr hzr hbw
          go_upto_if 40 with fail
          change Code.wp _ _ _ _ (wr.alloc (actBlk k v n s))
          generalize wr.alloc (actBlk k v n s) = x at hst ⊢
          clear hh e0 e1 e2 e3
          obtain ⟨all', hall, _, hi, hh, ha⟩ := hst
          obtain rfl : all' = all := by injection hall with hall; injection hall with hall; exact (List.toArray_inj hall).symm
          clear hall
          have hal2 : all'.length ≤ 12420 := by omega
          go_cut [6, 9, 10] from 23 to 187 (fun t _ _ x => WMid w h k v n s m1 t x)
          case first =>
            by_cases k0 : k = 0
            · have d0 : (k == 0) = true := by rw [k0]; rfl
              have hm2 := hm2 k0
              clear k0 hm3
              have hi' := hi
              obtain ⟨_, hwx, hzx, _, hszx⟩ := hi'
              obtain ⟨q0, q1, q2, q3⟩ := act_cells ha
              cases hf : fitsIn v n with
              | true =>
                obtain ⟨n0, n1, v0, _⟩ := fits_parts hf
                have hrl : (rowOf v.toNat n.toNat).length ≤ 32 := by rw [rowOf_length]; omega
                have F := Lib.hid hf
                clear hf
                go_wp2_with fail
                refine (fits_page v n hv _).mono ?_
                rintro e w' ⟨rfl, rfl⟩
                rw [F.out]
                go_wp2_with fail
                refine (put_fits _ _ _ _ v n hwx hv F.out (by omega) (by omega)).mono ?_
                rintro e x1 ⟨rfl, hw1, g1⟩
                have ha1 := act_kept g1 (by omega) ha
                have hz1 := hzx.grown g1 (by omega) (by omega)
                have hs1 := g1.size
                clear q0 q1 q2 q3
                obtain ⟨q0, q1, q2, q3⟩ := act_cells ha1
                go_wp2_with fail
                refine (put_fits _ _ _ _ v n hz1 hv F.out (by omega) (by omega)).mono ?_
                rintro e x2 ⟨rfl, hz2, g2⟩
                have ha2 := act_kept g2 (by omega) ha1
                have hi2 : WInv w (all' ++ rowOf v.toNat n.toNat) x2 := hi.both (by rw [isRow_append, rowOf_row, hi.1]; rfl) hw1 g1 hz2 g2
                clear q0 q1 q2 q3
                obtain ⟨q0, q1, q2, q3⟩ := act_cells ha2
                go_wp2_with fail
                refine (put_nil _ v n hv).mono ?_
                rintro e x3 ⟨rfl, hb3⟩
                have ha3 := act_below hb3 ha2
                have hi3 := hi2.below hb3
                clear q0 q1 q2 q3
                obtain ⟨q0, q1, q2, q3⟩ := act_cells ha3
                go_wp2_with fail
                refine (row_page v n v0 hv n0 n1 _).mono ?_
                rintro e w' ⟨rfl, rfl⟩
                have hfin : WMid w h k v n s m1 (.string (⟨all'.toArray⟩ ++ ⟨(rowOf v.toNat n.toNat).toArray⟩)) x3 :=
                  ⟨_, by rw [bytes_append], by rw [List.length_append, rowOf_length]; omega, hi3, hh, ha3⟩
                have W3 := Lib.hid hfin
                clear hfin
                go_wp2
                go_meet
                case rel => exact W3.out
              | false =>
                have F := Lib.hid hf
                clear hf
                go_wp2_with fail
                refine (fits_page v n hv _).mono ?_
                rintro e w' ⟨rfl, rfl⟩
                rw [F.out]
                go_wp2_with fail
                refine (put_not _ _ v n hv F.out).mono ?_
                rintro e w' ⟨rfl, rfl⟩
                go_wp2_with fail
                refine (put_not _ _ v n hv F.out).mono ?_
                rintro e w' ⟨rfl, rfl⟩
                go_wp2_with fail
                refine (put_not _ _ v n hv F.out).mono ?_
                rintro e w' ⟨rfl, rfl⟩
                go_wp2
                go_meet
                case rel => exact ⟨all', rfl, by omega, hi, hh, ha⟩
            · have d0 : (k == 0) = false := by rw [beq_eq_false_iff_ne]; exact k0
              go_wp2
              go_meet
              case rel => exact ⟨all', rfl, by omega, hi, hh, ha⟩
          case rest =>
            clear hi ha hm2
            obtain ⟨all, rfl, hal1, hi, _, ha⟩ := hcut
            have hal2 : all.length ≤ 12500 := by omega
            obtain ⟨q0, q1, q2, q3⟩ := act_cells ha
            obtain ⟨m2, hm4, hm5, hm6⟩ : ∃ m2, m1 ≤ m2 ∧ (k = 1 → 207 * j + 200 ≤ m2) ∧ m2 ≤ 207 * j + 200 ∧ (k = 2 → m2 = 207 * j) := by
              by_cases h1 : k = 1
              · exact ⟨207 * j + 200, by omega, by omega, by omega, by omega⟩
              · exact ⟨m1, by omega, by omega, by omega, by omega⟩
            go_upto_if 93 with fail
            go_cut [6, 11, 12] from 23 to 187 (fun t _ _ x => WMid w h k v n s m2 t x)
            case first =>
              by_cases k1 : k = 1
              · have d0 : (k == 1) = true := by rw [k1]; rfl
                have hb5 := hm5 k1
                have hb1 : all.length ≤ 207 * j := by have := hm3.2 (by omega); omega
                clear k1 hm3 hm5 hm6
                have hi' := hi
                obtain ⟨_, hwx, hzx, _, hszx⟩ := hi'
                cases hf : isRow s.data.toList with
                | true =>
                  have F := Lib.hid hf
                  clear hf
                  go_wp2_with fail
                  refine (plain_page s (by unfold maxLen; omega) _).mono ?_
                  rintro e w' ⟨rfl, rfl⟩
                  rw [F.out]
                  go_wp2_with fail
                  refine (add_code _ _ _ _ s hwx F.out (by omega) (by omega)).mono ?_
                  rintro e x1 ⟨rfl, hw1, g1⟩
                  have ha1 := act_kept g1 (by omega) ha
                  have hz1 := hzx.grown g1 (by omega) (by omega)
                  have hs1 := g1.size
                  clear q0 q1 q2 q3
                  obtain ⟨q0, q1, q2, q3⟩ := act_cells ha1
                  go_wp2_with fail
                  refine (add_code _ _ _ _ s hz1 F.out (by omega) (by omega)).mono ?_
                  rintro e x2 ⟨rfl, hz2, g2⟩
                  have ha2 := act_kept g2 (by omega) ha1
                  have hi2 : WInv w (all ++ s.data.toList) x2 := hi.both (by rw [isRow_append, F.out, hi.1]; rfl) hw1 g1 hz2 g2
                  clear q0 q1 q2 q3
                  obtain ⟨q0, q1, q2, q3⟩ := act_cells ha2
                  go_wp2_with fail
                  refine (add_nil s _).mono ?_
                  rintro e w' ⟨rfl, rfl⟩
                  have hfin : WMid w h k v n s m2 (.string (⟨all.toArray⟩ ++ s)) x2 :=
                    ⟨_, by rw [show s = ⟨s.data.toList.toArray⟩ by simp, bytes_append], by rw [List.length_append]; have : s.data.toList.length = s.size := rfl; omega, hi2, hh, ha2⟩
                  have W3 := Lib.hid hfin
                  clear hfin
                  go_wp2
                  go_meet
                  case rel => exact W3.out
                | false =>
                  have F := Lib.hid hf
                  clear hf
                  go_wp2_with fail
                  refine (plain_page s (by unfold maxLen; omega) _).mono ?_
                  rintro e w' ⟨rfl, rfl⟩
                  rw [F.out]
                  go_wp2_with fail
                  refine (add_none _ _ s F.out).mono ?_
                  rintro e x1 ⟨rfl, hb1'⟩
                  have ha1 := act_below hb1' ha
                  have hi1 := hi.below hb1'
                  clear q0 q1 q2 q3
                  obtain ⟨q0, q1, q2, q3⟩ := act_cells ha1
                  go_wp2_with fail
                  refine (add_none _ _ s F.out).mono ?_
                  rintro e x2 ⟨rfl, hb2'⟩
                  have ha2 := act_below hb2' ha1
                  have hi2 := hi1.below hb2'
                  clear q0 q1 q2 q3
                  obtain ⟨q0, q1, q2, q3⟩ := act_cells ha2
                  go_wp2_with fail
                  refine (add_nil s _).mono ?_
                  rintro e w' ⟨rfl, rfl⟩
                  go_wp2
                  go_meet
                  case rel => exact ⟨all, rfl, by omega, hi2, hh, ha2⟩
              · have d0 : (k == 1) = false := by rw [beq_eq_false_iff_ne]; exact k1
                go_wp2
                go_meet
                case rel => exact ⟨all, rfl, by omega, hi, hh, ha⟩
            case rest =>
              clear hi ha hm5
              obtain ⟨all, rfl, hal1, hi, _, ha⟩ := hcut
              have hal2 : all.length ≤ 12620 := by omega
              clear q0 q1 q2 q3
              obtain ⟨q0, q1, q2, q3⟩ := act_cells ha
              go_upto_if 135 with fail
              go_cut [6, 13] from 23 to 187 (fun t _ x => WMid w h k v n s (207 * (j + 1)) t x)
              case first =>
                by_cases k2 : k = 2
                · have d0 : (k == 2) = true := by rw [k2]; rfl
                  have hb2 : all.length ≤ 207 * j := by have := hm6.2 k2; omega
                  clear k2 hm3 hm6
                  have hi' := hi
                  obtain ⟨hrw, hwx, hzx, _, hszx⟩ := hi'
                  have RW := Lib.hid hrw
                  clear hrw
                  go_wp2_with fail
                  go_loop [6, 13] (fun t i => ∃ g : Nat, g ≤ (8 - all.length % 8) % 8 ∧ i = .int .i64 g ∧ t = .string ⟨(all ++ List.replicate g 48).toArray⟩) (fun _ i => 8 - (intOf i).toNat)
                  case atStart => exact ⟨0, Nat.zero_le _, rfl, by simp⟩
                  case round =>
                    obtain ⟨g, hg, rfl, rfl⟩ := hrel
                    by_cases hlg : g < (8 - all.length % 8) % 8
                    · go_wp2_with fail
                      go_round
                      case rel => exact ⟨g + 1, by omega, by go_num, by rw [nought_more]⟩
                      case measure => simp [intOf]; omega
                    · have eg : gap all.length = g := by unfold gap; omega
                      have EG := Lib.hid eg
                      clear eg
                      go_wp2_with fail
                      refine (fill_code _ _ _ _ hwx (by omega) (by omega)).mono ?_
                      rintro e x1 ⟨rfl, hw1, g1⟩
                      rw [EG.out] at hw1 ⊢
                      have ha1 := act_kept g1 (by omega) ha
                      have hz1 := hzx.grown g1 (by omega) (by omega)
                      have hs1 := g1.size
                      go_wp2_with fail
                      refine (fill_code _ _ _ _ hz1 (by omega) (by omega)).mono ?_
                      rintro e x2 ⟨rfl, hz2, g2⟩
                      rw [EG.out] at hz2 ⊢
                      have ha2 := act_kept g2 (by omega) ha1
                      have hi2 : WInv w (all ++ List.replicate g 48) x2 := hi.both (by rw [isRow_append, RW.out, isRow_noughts]; rfl) hw1 g1 hz2 g2
                      go_wp2_with fail
                      refine (fill_nil _).mono ?_
                      rintro e w' ⟨rfl, rfl⟩
                      have hfin : WMid w h k v n s (207 * (j + 1)) (.string ⟨(all ++ List.replicate g 48).toArray⟩) x2 := ⟨_, rfl, by rw [List.length_append, List.length_replicate]; omega, hi2, hh, ha2⟩
                      have W3 := Lib.hid hfin
                      clear hfin
                      go_wp2
                      go_meet
                      case rel => exact W3.out
                · have d0 : (k == 2) = false := by rw [beq_eq_false_iff_ne]; exact k2
                  go_wp2
                  go_meet
                  case rel => exact ⟨all, rfl, by omega, hi, hh, ha⟩
              case rest =>
                clear hi ha hm6 q0 q1 q2 q3
                obtain ⟨all, rfl, hal1, hi, _, ha⟩ := hcut
                have hal2 : all.length ≤ 12620 := by omega
                have hi' := hi
                obtain ⟨hrw, hwx, hzx, hbx, hszx⟩ := hi'
                have RW := Lib.hid hrw
                have HAL := Lib.hid hal1
                clear hrw hm1 hm3 hm4 ha hi hal1
                go_wp2_with fail
                refine (len_code _ _ _ _ hwx).mono ?_
                rintro e w' ⟨rfl, rfl⟩
                go_wp2_with fail
                refine (text_code _ _ _ _ hwx (by omega)).mono ?_
                rintro e x1 ⟨rfl, hb1⟩
                have hw1 := hwx.below hb1
                have hz1 := hzx.below hb1
                have s1 := hb1.size
                go_wp2_with fail
                refine (pack_page _ (by rw [size_mk]; omega) RW.out _).mono ?_
                rintro e x2 ⟨rfl, hb2⟩
                have hw2 := hw1.below hb2
                have hz2 := hz1.below hb2
                have s2 := hb2.size
                go_wp2_with fail
                refine (text_code _ _ _ _ hz2 (by omega)).mono ?_
                rintro e x3 ⟨rfl, hb3⟩
                have hw3 := hw2.below hb3
                have hz3 := hz2.below hb3
                have s3 := hb3.size
                go_wp2_with fail
                refine (text_code _ _ _ _ hw3 (by omega)).mono ?_
                rintro e x4 ⟨rfl, hb4⟩
                have hw4 := hw3.below hb4
                have hz4 := hz3.below hb4
                have s4 := hb4.size
                go_wp2_with fail
                refine (len_nil _).mono ?_
                rintro e w' ⟨rfl, rfl⟩
                go_wp2_with fail
                refine (text_nil _).mono ?_
                rintro e w' ⟨rfl, rfl⟩
                have hb0 := hbx.size
                have hend : WInv w all x4 := ⟨RW.out, hw4, hz4, hbx.trans ((hb1.mono (by omega)).trans ((hb2.mono (by omega)).trans ((hb3.mono (by omega)).trans (hb4.mono (by omega))))), by omega⟩
                clear hwx hzx hbx hb1 hb2 hb3 hb4 hw1 hw2 hw3 hw4 hz1 hz2 hz3 hz4
                go_wp2_with fail
                go_roundw
                case rel => exact ⟨j + 1, all, by omega, by go_num, rfl, HAL.out, hend⟩
                case measure => simp [intOf]; omega
      · obtain rfl : j = len := by omega
        go_wp2_with fail
        refine (len_code _ _ _ _ hwr).mono ?_
        rintro e w' ⟨rfl, rfl⟩
        go_wp2_with fail
        refine (lives2 _).mono ?_
        rintro e w6 ⟨rfl, hb6⟩
        go_wp2
        go_ret
        exact ⟨rfl, hbw.trans (hb6.mono (by omega))⟩

theorem spot_none {w : World} {a : Addr} {v : Value} (h : w.cell? a = some v) : a = ⟨a.block, a.off, none⟩ := by
  obtain ⟨b, o, s⟩ := a
  cases s with
  | none => rfl
  | some x => unfold World.cell? at h; split at h <;> simp at h
theorem block_of_cell {w : World} {a : Addr} {v : Value} (h : w.cell? a = some v) : a.block < w.heap.size := World.block_lt_of_cell? w a h
section
variable {H : Type} {enc : TypeId × Value → H} {P : Program}
/-- A slice of structs of three int and a string that comes in. -/
theorem open_acts {w : World} {r : Reach} {b0 base : Nat} {sp : Nat → Bool} {held : Bool} {t e ti ts : TypeId} {f0 f1 f2 f3 : Field} {v : Value} {d : DataW H} {ps : List MemPlace}
    (ht : P.underlying t = some (.slice e)) (he : P.underlying e = some (.struct #[f0, f1, f2, f3])) (hi : P.underlying ti = some (.int .i64)) (hst : P.underlying ts = some .string)
    (e0 : f0.type = ti) (e1 : f1.type = ti) (e2 : f2.type = ti) (e3 : f3.type = ts) (o0 : f0.offset = 0) (o1 : f1.offset = 1) (o2 : f2.offset = 2) (o3 : f3.offset = 3)
    (ce : P.cellsOf e = 4) (ci : P.cellsOf ti = 1) (cs : P.cellsOf ts = 1)
    (hval : Value.okWide P w r b0 t v) (hd : DataW.Trod enc P w base sp held t v d ps) : ∃ p len cap, v = .slice p len cap ∧ len ≤ maxLen ∧ ActsAt w p len := by
  obtain ⟨a, len, cap, rfl⟩ := okWide_slice ht hval
  obtain ⟨fuel, hf⟩ := hd
  refine ⟨a, len, cap, rfl, ?_⟩
  rcases Go.Deep.open_slice ht hf with ⟨h1, _⟩ | ⟨a', len', cap', m, n, D, Pl, h1, hb, hl, hm, hmm, _, hx⟩
  · simp [Value.cells] at h1
    obtain ⟨rfl, rfl, rfl⟩ := h1
    exact ⟨Nat.zero_le _, .inl rfl⟩
  · simp [Value.cells] at h1
    obtain ⟨rfl, rfl, rfl⟩ := h1
    refine ⟨by omega, ?_⟩
    have hlm : len ≤ m := by rw [hmm]; split <;> omega
    have each : ∀ i, i < len → ∃ (k v n : Int) (s : ByteArray), w.cell? (a'.add (i * 4)) = some (.int .i64 k) ∧ w.cell? (a'.add (i * 4 + 1)) = some (.int .i64 v) ∧ w.cell? (a'.add (i * 4 + 2)) = some (.int .i64 n) ∧ w.cell? (a'.add (i * 4 + 3)) = some (.string s) ∧
        v ≤ 9223372036854775807 ∧ s.size ≤ 9223372036854775807 := by
      intro i hil
      obtain ⟨cs', h1, h2⟩ := hx i (by omega)
      rw [ce] at h1
      obtain ⟨_, hlen, hcell⟩ := World.cells?_some h1
      obtain ⟨xs, k, hk, hxy, _, hxl, hfs⟩ := DataW.trod_struct he h2
      match xs, hxl, cs', hlen with
      | [y0, y1, y2, y3], _, [v0, v1, v2, v3], _ =>
        have g0 := hfs 0 f0 rfl
        have g1 := hfs 1 f1 rfl
        have g2 := hfs 2 f2 rfl
        have g3 := hfs 3 f3 rfl
        rw [e0, o0, ci] at g0
        rw [e1, o1, ci] at g1
        rw [e2, o2, ci] at g2
        rw [e3, o3, cs] at g3
        obtain ⟨x0, q0, _, w0⟩ := DataW.trod_int hi (show DataW.trod _ P w base sp held k ti [v0] = some y0 from g0)
        obtain ⟨x1, q1, _, w1⟩ := DataW.trod_int hi (show DataW.trod _ P w base sp held k ti [v1] = some y1 from g1)
        obtain ⟨x2, q2, _, w2⟩ := DataW.trod_int hi (show DataW.trod _ P w base sp held k ti [v2] = some y2 from g2)
        obtain ⟨x3, q3, _, w3⟩ := DataW.trod_string hst (show DataW.trod _ P w base sp held k ts [v3] = some y3 from g3)
        have c0 := hcell 0 (by omega)
        have c1 := hcell 1 (by omega)
        have c2 := hcell 2 (by omega)
        have c3 := hcell 3 (by omega)
        rw [Go.Deep.add_add] at c0 c1 c2 c3
        injection q0 with q0
        injection q1 with q1
        injection q2 with q2
        injection q3 with q3
        subst q0 q1 q2 q3
        unfold maxLen at w3
        exact ⟨x0, x1, x2, x3, c0, c1, c2, c3, (i64_most w1).2, by omega⟩
    by_cases h0 : len = 0
    · exact .inl h0
    · right
      obtain ⟨_, _, _, _, c, _⟩ := each 0 (by omega)
      have ca : w.cell? a' = _ := c
      have ea := spot_none ca
      refine ⟨a'.block, a'.off, by rw [← ea], block_of_cell ca, fun i hil => ?_⟩
      obtain ⟨k, v, n, s, c0, c1, c2, c3, h4, h5⟩ := each i hil
      rw [ea, Addr.add_mid] at c0 c1 c2 c3
      exact ⟨k, v, n, s, c0, c1, c2, c3, h4, h5⟩
end

theorem outbitsWrites_own : ownKnob Try.prog.godebug = none := by kernel_rfl
theorem outbitsWrites_laid : laidOutB Try.prog = true := by kernel_rfl
theorem outbitsWrites_reads : Try.f4.params.toList.all (fun t => Try.prog.readableRec t && decide (t < Try.prog.types.size)) = true := by kernel_rfl

set_option maxRecDepth 100000 in
theorem outbitsWrites_lifted (os : Os) (started : os.Started) (H : Type) (enc : TypeId × Value → H) :
    ReturnsInHanded {} Try.checked os 4 .any (Rows.outbitsWritesSpec.pre6 enc Try.prog Try.f4 Rows.outbitsWritesRow.domain false) (Rows.outbitsWritesSpec.post enc Try.prog Try.f4 false true false false) := by
  refine returnsInHanded_of_change (C := Try.checked) outbitsWrites_own started (by kernel_rfl) Try.func4
    (ChangeSpec.witness6 (enc := enc) (C := Try.checked) false ⟨#[], #[.slice none 0 0], []⟩ 8 (by kernel_rfl) (by kernel_rfl) (by kernel_rfl) (by kernel_rfl)) ?_
  intro W base args ds gs before hval0 hW hcnd _
  have hval : ∀ (j : Nat) t v, Try.f4.params[j]? = some t → args[j]? = some v → Value.okWide Try.prog W .any base t v := hval0
  have hW' := hW
  obtain ⟨p, q, hA0, hV, rfl, hfz, hnd⟩ := hW
  have hA : DataW.TrodAll enc Try.prog W 0 (fun _ => true) true Try.f4.params.toList args.toList ds p := hA0
  rw [Try.params4] at hA hval
  obtain ⟨v0, vs0, d0, ds0, p0, q0, hargs, rfl, rfl, h0, r0⟩ := trodAll_cons hA
  obtain ⟨rfl, rfl, rfl⟩ := trodAll_nil r0
  obtain rfl : args = #[v0] := by cases args; simp_all
  obtain ⟨rfl, rfl⟩ := trodVars_none hV
  obtain ⟨p0, len, cap, rfl, w0, x0⟩ := open_acts Try.underlying32 Try.underlying40 Try.underlying3 Try.underlying9 rfl rfl rfl rfl rfl rfl rfl rfl (by kernel_rfl) (by kernel_rfl) (by kernel_rfl) (hval 0 32 v0 rfl rfl) h0
  clear hA0 hval0
  refine (outbitsWrites_walk p0 len cap W x0 (by unfold maxLen at w0; omega)).mono fun e W' ⟨he, hb⟩ => ?_
  subst he
  exact ⟨_, rfl, law_end outbitsWrites_laid outbitsWrites_reads rfl Try.underlying4 rfl hW' rfl hb⟩

theorem outbitsWrites_over : Rows.outbitsWritesRow.holds Try.pinned (OpenSpec.ofChange Rows.outbitsWritesSpec) :=
  OpenClaim.holds_of_wide 4 Try.f4 rfl rfl rfl rfl rfl rfl rfl ⟨rfl, rfl, rfl, rfl, rfl⟩ rfl rfl rfl rfl rfl (by kernel_rfl) Try.func4 (by kernel_rfl)
    (of_decide_eq_true (by kernel_rfl)) (by unfold Func.isWrapper; first | (rw [if_pos (by decide +kernel)]; kernel_rfl) | (rw [if_neg (by decide +kernel)]; exact ⟨rfl, rfl⟩))
    (fun os started H enc _ => outbitsWrites_lifted os started H enc)

theorem outbitsWrites_holds : Rows.OutbitsWritesSaid :=
  outbitsWrites_over
#print axioms outbitsWrites_holds
end Go.Proofs.Ytgapoimickgbbaa
