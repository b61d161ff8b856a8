/- Whatever a Reader of package inbits is asked, it tells what the document's own answers tell, and stands where they say; and the chapter's example comes out. Conditions: none but the law's own (texts of up to 500 bytes, 80 questions). -/
import Derived.Test.YtekpilodicnncaaRows
import Derived.Test.YtekpilodicnncaaRef3
import Derived.ChangeMaps5
import Derived.Deep.DeepCutAuto
import Derived.Deep.CutRange
import Derived.Deep.CutBlock
import Derived.Test.YtekpilodicnncaaOpen
namespace Go.Proofs.Ytekpilodicnncaa
open Go.ChangeShapes Go.WideShapes Go.ChangeAt Go.RowKit
set_option linter.unusedVariables false

/-- What stands behind the switch of a round: both answers are one; the reader stands where the sum tells. -/
def RMid (w : World) (b : Nat) (s : ByteArray) (t7 t9 t10 t11 t12 t13 : Value) (x : World) : Prop :=
  ∃ (v f a st : Int) (q : Nat), t7 = .int .i64 a ∧ t9 = .int .i64 v ∧ t10 = .int .i64 v ∧ t11 = .int .i64 f ∧ t12 = .int .i64 f ∧ t13 = .int .i64 st ∧ a + st = q ∧ IsRd x b s q ∧ Below b w x ∧ b + 1 ≤ x.heap.size

set_option maxHeartbeats 1000000 in
theorem law_take (w : World) (b : Nat) (s : ByteArray) (q : Nat) (k n : Int) (hr : IsRd w b s q) (Q : Nat) (hQ : (k = 1 → Q = q) ∧ (k ≠ 1 → Q = askTo s.data.toList q n)) :
    Calls Try.prog 9 #[.pointer (some ⟨b, 0, none⟩), .agg #[.int .i64 k, .int .i64 n]] w fun e w' => e = .returned (.tuple #[.int .i64 (ask s.data.toList q n).1, .int .i64 (ask s.data.toList q n).2]) ∧ IsRd w' b s Q ∧ w.grownBy w' (some b) := by
  obtain ⟨o, ho⟩ : ∃ o, (Obj.cells #[Value.int .i64 k, .int .i64 n] 29 (0, 0)) = o := ⟨_, rfl⟩
  have hr1 : IsRd (w.alloc o) b s q := hr.below ((Below.refl _ _).alloc (Nat.le_refl _) _)
  have hg1 : w.grownBy (w.alloc o) (some b) := World.grownBy_alloc w _ _
  have hlt := hr.lt
  subst ho
  by_cases h1 : k = 1
  · have d1 : (k == 1) = true := by rw [h1]; rfl
    obtain rfl := hQ.1 h1
    clear h1 hQ
    go_enter Try.func9, Try.ntmps9
    go_wp2_with fail
    refine (peek_code _ _ _ _ _ hr1).mono ?_
    rintro e w1 ⟨rfl, hb⟩
    have hr2 := hr1.below hb
    have hg2 : w.grownBy w1 (some b) := grown_trans hg1 ⟨hb.os, hb.tape, hb.output, hb.size, fun k hk _ => hb.block k hk⟩
    go_wp2
    go_ret2
    exact ⟨rfl, hr2, hg2⟩
  · have d1 : (k == 1) = false := by rw [beq_eq_false_iff_ne]; exact h1
    obtain rfl := hQ.2 h1
    clear h1 hQ
    go_enter Try.func9, Try.ntmps9
    go_wp2_with fail
    refine (take_code _ _ _ _ _ hr1).mono ?_
    rintro e w1 ⟨rfl, hr2, hg2⟩
    go_wp2
    go_ret2
    exact ⟨rfl, hr2, grown_trans hg1 hg2⟩

theorem below_grown {w x y : World} {b : Nat} (h : Below b w x) (hz : b + 1 ≤ x.heap.size) (g : x.grownBy y (some b)) : Below b w y ∧ b + 1 ≤ y.heap.size :=
  ⟨h.grown g (by omega) (by intro k hk; injection hk with hk; omega), by have := g.size; omega⟩
theorem fill_to (l : List UInt8) (q : Nat) : (q : Int) + (fillOf l q).1 = (fillTo l q : Nat) := by
  unfold fillOf fillTo
  split
  · simp
  · simp

set_option maxRecDepth 100000 in
set_option maxHeartbeats 8000000 in
theorem inbitsReads_walk (s : ByteArray) (p : Option Addr) (len cap : Nat) (w : World) (hs : s.size ≤ maxLen) (ha : RowsAt w TwoInts 2 p len) (hm : len ≤ maxLen) :
    Calls Try.prog 3 #[.string s, .slice p len cap] w fun e w' => e = .returned (.bool true) ∧ Below w.heap.size w w' := by
  unfold maxLen at hs hm
  by_cases hl0 : 500 < s.size
  · go_enter Try.func3, Try.ntmps3
    go_wp2_with (go_at_call 6; refine (lives3 _).mono ?_; rintro e w' ⟨rfl, hb⟩)
    go_ret
    exact ⟨rfl, hb⟩
  · by_cases hl : 80 < len
    · go_enter Try.func3, Try.ntmps3
      go_wp2_with (go_at_call 6; refine (lives3 _).mono ?_; rintro e w' ⟨rfl, hb⟩)
      go_ret
      exact ⟨rfl, hb⟩
    · obtain ⟨b, hb⟩ : ∃ b, w.heap.size = b := ⟨_, rfl⟩
      have hr0 : IsRd (w.alloc (rdObj s 0)) b s 0 := IsRd.fresh hb (by omega)
      have hb0 : Below w.heap.size w (w.alloc (rdObj s 0)) := (Below.refl _ w).alloc (Nat.le_refl _) _
      have hz0 : (w.alloc (rdObj s 0)).heap.size = b + 1 := by simp; exact hb
      rw [hb] at hb0
      have d0 : decide (500 < (s.size : Int)) = false := by simp; omega
      have d1 : decide (80 < (len : Int)) = false := by simp; omega
      have HB := Lib.hid hb
      rw [hb]
      go_enter Try.func3, Try.ntmps3
      go_wp2_with fail
      refine (rnew_code _ _).mono ?_
      rintro e w1 ⟨rfl, rfl⟩
      rw [HB.out]
      go_wp2_with fail
      refine (show_page s (by omega) _).mono ?_
      rintro e w2 ⟨rfl, hb2⟩
      have hr2 := hr0.below hb2
      have hbb : Below b w w2 := hb0.trans (hb2.mono (by omega))
      have hz2 := hb2.size
      rw [hz0] at hz2
      clear hb2 hr0 hb0
      go_wp2_with fail
      go_loopw [7, 8] (fun t i wr => ∃ j q : Nat, j ≤ len ∧ i = .int .i64 j ∧ t = .int .i64 q ∧ IsRd wr b s q ∧ Below b w wr ∧ b + 1 ≤ wr.heap.size) (fun _ i _ => len - (intOf i).toNat)
      case atStart => exact ⟨0, 0, Nat.zero_le _, rfl, rfl, hr2, hbb, hz2⟩
      case round =>
        clear hr2 hbb hz2
        obtain ⟨j, q, hj, rfl, rfl, hr, hbw, hz⟩ := hrel
        by_cases hlt : j < len
        · obtain ⟨c, o, rfl, hblt, hasks⟩ : ∃ c o, p = some ⟨c, o, none⟩ ∧ c < w.heap.size ∧ ∀ i, i < len → ∃ vs : List Value, vs.length = 2 ∧ TwoInts vs ∧ ∀ (j : Nat) v, vs[j]? = some v → w.cell? ⟨c, o + i * 2 + j, none⟩ = some v := by
            rcases ha with h | h
            · omega
            · exact h
          obtain ⟨_, _, ⟨k, n, rfl, _, _⟩, hvs⟩ := hasks j hlt
          have c0 : w.cell? ⟨c, o + j * 2, none⟩ = some (.int .i64 k) := hvs 0 _ rfl
          have c1 : w.cell? ⟨c, o + j * 2 + 1, none⟩ = some (.int .i64 n) := hvs 1 _ rfl
          have hcb : c < b := by rw [← HB.out]; exact hblt
          have hE : ∀ x, Below b w x → x.cell? ⟨c, o + j * 2, none⟩ = some (.int .i64 k) ∧ x.cell? ⟨c, o + j * 2 + 1, none⟩ = some (.int .i64 n) := fun x hx =>
            ⟨(World.cell?_of_block (a := ⟨c, o + j * 2, none⟩) (hx.block c hcb)).trans c0, (World.cell?_of_block (a := ⟨c, o + j * 2 + 1, none⟩) (hx.block c hcb)).trans c1⟩
          have EE := Lib.hid hE
          clear c0 c1 hE hasks hvs ha hblt
          obtain ⟨e0, e1⟩ := EE.out wr hbw
          have hq := hr.2.1
          go_upto_block 2 with fail
          go_cut [7, 9, 10, 11, 12, 13] from 29 to 153 (fun t7 t9 t10 t11 t12 t13 x => RMid w b s t7 t9 t10 t11 t12 t13 x)
          case first =>
            by_cases k01 : k = 0 ∨ k = 1
            · have hto : ∃ Q, (k = 1 → Q = q) ∧ (k ≠ 1 → Q = askTo s.data.toList q n) := by
                by_cases k1 : k = 1
                · exact ⟨q, fun _ => rfl, fun h => absurd k1 h⟩
                · exact ⟨_, fun h => absurd h k1, fun _ => rfl⟩
              obtain ⟨Q, hQ⟩ := hto
              have hrg := ask_range s.data.toList q n
              have hat : askTo s.data.toList q n = if (ask s.data.toList q n).2 = 0 then q + n.toNat else q := rfl
              have QH := Lib.hid hQ
              have AT := Lib.hid hat
              have RG := Lib.hid hrg
              clear hQ hat hrg
              rcases k01 with k0 | k1
              · have d0 : (k == 0) = true := by rw [k0]; rfl
                have K0 := Lib.hid k0
                clear k0
                go_wp2_with fail
                refine (law_take _ _ _ _ k n hr Q QH.out).mono ?_
                rintro e x1 ⟨rfl, hr1, hg1⟩
                obtain ⟨hb1, hz1⟩ := below_grown hbw hz hg1
                obtain ⟨f0, f1⟩ := EE.out x1 hb1
                go_wp2_with fail
                refine (take_page s q n hq (by omega) _).mono ?_
                rintro e w' ⟨rfl, rfl⟩
                obtain ⟨v, f, hvf⟩ : ∃ v f, ask s.data.toList q n = (v, f) := ⟨_, _, rfl⟩
                have VF := Lib.hid hvf
                rw [hvf]
                clear hvf
                by_cases hf : f = 0
                · have hf0 : (f == 0) = true := by rw [hf]; rfl
                  have hfin : RMid w b s (.int .i64 q) (.int .i64 v) (.int .i64 v) (.int .i64 f) (.int .i64 f) (.int .i64 n) x1 := by
                    refine ⟨v, f, q, n, Q, rfl, rfl, rfl, rfl, rfl, rfl, ?_, hr1, hb1, hz1⟩
                    have h1 := QH.out.2 (by rw [K0.out]; decide)
                    rw [AT.out, VF.out, if_pos hf] at h1
                    have h2 := RG.out
                    rw [VF.out, hf] at h2
                    have h3 : 0 ≤ n := by
                      rcases h2 with h | h | h
                      · cases h
                      · cases h
                      · exact h.2.1
                    omega
                  have FI := Lib.hid hfin
                  clear hf hfin
                  go_wp2
                  go_meet
                  case rel => exact FI.out
                · have hf0 : (f == 0) = false := by rw [beq_eq_false_iff_ne]; exact hf
                  have hfin : RMid w b s (.int .i64 q) (.int .i64 v) (.int .i64 v) (.int .i64 f) (.int .i64 f) (.int .i64 0) x1 := by
                    refine ⟨v, f, q, 0, Q, rfl, rfl, rfl, rfl, rfl, rfl, ?_, hr1, hb1, hz1⟩
                    have h1 := QH.out.2 (by rw [K0.out]; decide)
                    rw [AT.out, VF.out, if_neg hf] at h1
                    omega
                  have FI := Lib.hid hfin
                  clear hf hfin
                  go_wp2
                  go_meet
                  case rel => exact FI.out
              · have d0 : (k == 0) = false := by rw [k1]; rfl
                have d1 : (k == 1) = true := by rw [k1]; rfl
                have K1 := Lib.hid k1
                clear k1
                go_wp2_with fail
                refine (law_take _ _ _ _ k n hr Q QH.out).mono ?_
                rintro e x1 ⟨rfl, hr1, hg1⟩
                obtain ⟨hb1, hz1⟩ := below_grown hbw hz hg1
                obtain ⟨f0, f1⟩ := EE.out x1 hb1
                go_wp2_with fail
                refine (take_page s q n hq (by omega) _).mono ?_
                rintro e w' ⟨rfl, rfl⟩
                obtain ⟨v, f, hvf⟩ : ∃ v f, ask s.data.toList q n = (v, f) := ⟨_, _, rfl⟩
                rw [hvf]
                clear hvf
                have hfin : RMid w b s (.int .i64 q) (.int .i64 v) (.int .i64 v) (.int .i64 f) (.int .i64 f) (.int .i64 0) x1 := by
                  refine ⟨v, f, q, 0, Q, rfl, rfl, rfl, rfl, rfl, rfl, ?_, hr1, hb1, hz1⟩
                  have h1 := QH.out.1 K1.out
                  omega
                have FI := Lib.hid hfin
                clear hfin
                by_cases hf : f = 0
                · subst hf
                  go_wp2
                  go_meet
                  case rel => exact FI.out
                · have hf0 : (f == 0) = false := by rw [beq_eq_false_iff_ne]; exact hf
                  clear hf
                  go_wp2
                  go_meet
                  case rel => exact FI.out
            · have d0 : (k == 0) = false := by rw [beq_eq_false_iff_ne]; omega
              have d1 : (k == 1) = false := by rw [beq_eq_false_iff_ne]; omega
              by_cases k2 : k = 2
              · have d2 : (k == 2) = true := by rw [k2]; rfl
                clear k2 k01
                go_wp2_with fail
                refine (rfill_code _ _ _ _ hr).mono ?_
                rintro e x1 ⟨rfl, hr1, hg1⟩
                obtain ⟨hb1, hz1⟩ := below_grown hbw hz hg1
                go_wp2_with fail
                refine (rfill_page s q hq (by omega) _).mono ?_
                rintro e w' ⟨rfl, rfl⟩
                have hfin : RMid w b s (.int .i64 q) (.int .i64 (fillOf s.data.toList q).1) (.int .i64 (fillOf s.data.toList q).1) (.int .i64 (fillOf s.data.toList q).2) (.int .i64 (fillOf s.data.toList q).2) (.int .i64 (fillOf s.data.toList q).1) x1 :=
                  ⟨_, _, q, _, _, rfl, rfl, rfl, rfl, rfl, rfl, fill_to _ _, hr1, hb1, hz1⟩
                have FI := Lib.hid hfin
                clear hfin
                go_wp2
                go_meet
                case rel => exact FI.out
              · have d2 : (k == 2) = false := by rw [beq_eq_false_iff_ne]; exact k2
                by_cases k3 : k = 3
                · have d3 : (k == 3) = true := by rw [k3]; rfl
                  clear k01 k2 k3
                  by_cases hn : 0 ≤ n ∧ n ≤ 8 * (s.size : Int)
                  · obtain ⟨n0, n1⟩ := hn
                    have g0 : decide (n < 0) = false := by simp; omega
                    have g1 : decide ((8 * (s.size : Int)) < n) = false := by simp; omega
                    have hsz := show_size s
                    go_wp2_with fail
                    refine (seek_code _ _ _ _ n hr n0 n1).mono ?_
                    rintro e x1 ⟨rfl, hr1, hg1⟩
                    obtain ⟨hb1, hz1⟩ := below_grown hbw hz hg1
                    obtain ⟨f0, f1⟩ := EE.out x1 hb1
                    have hfin : RMid w b s (.int .i64 n) (.int .i64 0) (.int .i64 0) (.int .i64 0) (.int .i64 0) (.int .i64 0) x1 :=
                      ⟨0, 0, n, 0, n.toNat, rfl, rfl, rfl, rfl, rfl, rfl, by omega, hr1, hb1, hz1⟩
                    have FI := Lib.hid hfin
                    clear hfin
                    go_wp2
                    go_meet
                    case rel => exact FI.out
                  · have hn' : n < 0 ∨ 8 * (s.size : Int) < n := by omega
                    have hsz := show_size s
                    have hfin : RMid w b s (.int .i64 q) (.int .i64 0) (.int .i64 0) (.int .i64 1) (.int .i64 1) (.int .i64 0) wr :=
                      ⟨0, 1, q, 0, q, rfl, rfl, rfl, rfl, rfl, rfl, by omega, hr, hbw, hz⟩
                    have FI := Lib.hid hfin
                    clear hfin
                    go_wp2_with fail
                    refine (seek_not _ _ _ _ n hr hn').mono ?_
                    rintro e x1 ⟨rfl, rfl⟩
                    clear hn
                    rcases hn' with h | h
                    · have g0 : decide (n < 0) = true := by simp; omega
                      go_wp2
                      go_meet
                      case rel => exact FI.out
                    · have g0 : decide (n < 0) = false := by simp; omega
                      have g1 : decide ((8 * (s.size : Int)) < n) = true := by simp; omega
                      go_wp2
                      go_meet
                      case rel => exact FI.out
                · have d3 : (k == 3) = false := by rw [beq_eq_false_iff_ne]; exact k3
                  have hfin : RMid w b s (.int .i64 q) (.int .i64 0) (.int .i64 0) (.int .i64 0) (.int .i64 0) (.int .i64 0) wr :=
                    ⟨0, 0, q, 0, q, rfl, rfl, rfl, rfl, rfl, rfl, by omega, hr, hbw, hz⟩
                  have FI := Lib.hid hfin
                  clear hfin
                  go_wp2
                  go_meet
                  case rel => exact FI.out
          case rest =>
            clear hr hbw hz e0 e1 hq
            obtain ⟨v, f, a, st, q', rfl, rfl, rfl, rfl, rfl, rfl, hsum, hr, hbw, hz⟩ := hcut
            have hq' := hr.2.1
            have hsz := show_size s
            have hw : wrap64 (a + st) = (q' : Int) := by rw [hsum]; unfold wrap64; omega
            have HW := Lib.hid hw
            clear hw hsum
            go_wp2_with fail
            rw [HW.out]
            refine (at_code _ _ _ _ hr).mono ?_
            rintro e w' ⟨rfl, rfl⟩
            go_wp2_with fail
            refine (left_code _ _ _ _ hr).mono ?_
            rintro e x1 ⟨rfl, hb1⟩
            have hr1 := hr.below hb1
            have hbw1 := hbw.trans (hb1.mono (by omega))
            have hz1 := hb1.size
            go_wp2_with fail
            refine (rtext_code _ _ _ _ hr1).mono ?_
            rintro e w' ⟨rfl, rfl⟩
            go_wp2_with fail
            go_roundw
            case rel => exact ⟨j + 1, q', by omega, by go_num, by go_num, hr1, hbw1, by omega⟩
            case measure => simp [intOf]; omega
        · obtain rfl : j = len := by omega
          go_wp2_with fail
          refine (lives3 _).mono ?_
          rintro e w6 ⟨rfl, hb6⟩
          go_wp2
          go_ret
          exact ⟨rfl, hbw.trans (hb6.mono (by omega))⟩

theorem inbitsReads_own : ownKnob Try.prog.godebug = none := by kernel_rfl
theorem inbitsReads_laid : laidOutB Try.prog = true := by kernel_rfl
theorem inbitsReads_reads : Try.f3.params.toList.all (fun t => Try.prog.readableRec t && decide (t < Try.prog.types.size)) = true := by kernel_rfl

set_option maxRecDepth 100000 in
theorem inbitsReads_lifted (os : Os) (started : os.Started) (H : Type) (enc : TypeId × Value → H) :
    ReturnsInHanded {} Try.checked os 3 .any (Rows.inbitsReadsSpec.pre6 enc Try.prog Try.f3 Rows.inbitsReadsRow.domain false) (Rows.inbitsReadsSpec.post enc Try.prog Try.f3 false true false false) := by
  refine returnsInHanded_of_change (C := Try.checked) inbitsReads_own started (by kernel_rfl) Try.func3
    (ChangeSpec.witness6 (enc := enc) (C := Try.checked) false ⟨#[], #[.string ⟨#[]⟩, .slice none 0 0], []⟩ 8 (by kernel_rfl) (by kernel_rfl) (by kernel_rfl) (by kernel_rfl)) ?_
  intro W base args ds gs before hval0 hW hcnd _
  have hval : ∀ (j : Nat) t v, Try.f3.params[j]? = some t → args[j]? = some v → Value.okWide Try.prog W .any base t v := hval0
  have hW' := hW
  obtain ⟨p, q, hA0, hV, rfl, hfz, hnd⟩ := hW
  have hA : DataW.TrodAll enc Try.prog W 0 (fun _ => true) true Try.f3.params.toList args.toList ds p := hA0
  rw [Try.params3] at hA hval
  obtain ⟨v0, vs0, d0, ds0, p0, q0, hargs, rfl, rfl, h0, r0⟩ := trodAll_cons hA
  obtain ⟨v1, vs1, d1, ds1, p1, q1, rfl, rfl, rfl, h1, r1⟩ := trodAll_cons r0
  obtain ⟨rfl, rfl, rfl⟩ := trodAll_nil r1
  obtain rfl : args = #[v0, v1] := by cases args; simp_all
  obtain ⟨rfl, rfl⟩ := trodVars_none hV
  obtain ⟨a0, rfl, rfl, rfl, w0⟩ := Go.ChangeMaps.open_string Try.underlying9 (hval 0 9 v0 rfl rfl) h0
  obtain ⟨p1, l1, c1, rfl, w1, x1⟩ := open_rows 2 _ Try.underlying22 (by kernel_rfl) (by decide) (two_struct Try.underlying29 Try.underlying3 rfl rfl rfl rfl (by kernel_rfl)) (hval 1 22 v1 rfl rfl) h1
  clear hA0 hval0
  refine (inbitsReads_walk a0 p1 l1 c1 W w0 x1 w1).mono fun e W' ⟨he, hb⟩ => ?_
  subst he
  exact ⟨_, rfl, law_end inbitsReads_laid inbitsReads_reads rfl Try.underlying4 rfl hW' rfl hb⟩

theorem inbitsReads_over : Rows.inbitsReadsRow.holds Try.pinned (OpenSpec.ofChange Rows.inbitsReadsSpec) :=
  OpenClaim.holds_of_wide 3 Try.f3 rfl rfl rfl rfl rfl rfl rfl ⟨rfl, rfl, rfl, rfl, rfl⟩ rfl rfl rfl rfl rfl (by kernel_rfl) Try.func3 (by kernel_rfl)
    (of_decide_eq_true (by kernel_rfl)) (by unfold Func.isWrapper; first | (rw [if_pos (by decide +kernel)]; kernel_rfl) | (rw [if_neg (by decide +kernel)]; exact ⟨rfl, rfl⟩))
    (fun os started H enc _ => inbitsReads_lifted os started H enc)

theorem inbitsReads_holds : Rows.InbitsReadsSaid :=
  inbitsReads_over
#print axioms inbitsReads_holds
end Go.Proofs.Ytekpilodicnncaa
