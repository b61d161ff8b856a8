/- The document's own answer of layer 10 (runs): the events of levels. No condition. -/
import Derived.Test.YtppbejnjcogcmaaRevs
namespace Go.Proofs.Ytppbejnjcogcmaa
open Go.RowKit Go.Lib

set_option maxRecDepth 100000 in
set_option maxHeartbeats 2000000 in
theorem events_page (f : Nat → Int) (a0 : Int) (w : World) : Calls Try.prog 7 #[.agg (arrA f), .int .i64 a0] w (EvGives f a0 w) := by
  have hbA : Below w.heap.size w (w.alloc (arrO f)) := (Below.refl _ w).alloc (Nat.le_refl _) _
  obtain ⟨i1, hj, kz0, kz1, kz2⟩ := info_parts info_ev
  by_cases hf : a0 = 0 ∨ a0 = 1
  · obtain ⟨a, rfl⟩ : ∃ a : Nat, a0 = (a : Int) := ⟨a0.toNat, by omega⟩
    have ha1 : a ≤ 1 := by omega
    have G := Lib.hid (show evG f (a : Int) = if bad f a 64 then ([], 7) else (mark (evs f a 64).1, 0) by unfold evG; rw [if_pos hf, Int.toNat_natCast])
    obtain ⟨B, hB⟩ : ∃ B, w.heap.size = B := ⟨_, rfl⟩
    obtain ⟨wA, hwA⟩ : ∃ wA, w.alloc (.cells (arrA f) 22 (0, 0)) = wA := ⟨_, rfl⟩
    have hzA : wA.heap.size = B + 1 := by rw [← hwA, ← hB]; simp
    have hhA : wA.heap[B]? = some (arrO f) := by rw [← hwA, ← hB]; exact heap_alloc_new w _
    have hbA : Below B w wA := by rw [← hwA, ← hB]; exact hbA
    have HC := Lib.hid (fun (k : Nat) (h : k < 64) (x : World) (hx : Below (B + 1) wA x) => (arr_cell ((hx.block B (by omega)).trans hhA) h : x.cell? ⟨B, k, none⟩ = some (.int .i64 (f k))))
    have HB := Lib.hid hB
    have HWA := Lib.hid hwA
    have t1 : decide (1 < (a : Int)) = false := by simp; omega
    have t2 : decide (1 < a) = false := by simpa using ha1
    clear hf
    obtain ⟨Z, hZ⟩ : ∃ Z, arrA f = Z := ⟨_, rfl⟩
    rw [hZ] at HWA ⊢
    clear hZ hB hwA hhA
    go_enter Try.func7, Try.ntmps7
    go_wp2
    rw [HWA.out, HB.out]
    have HXW := Lib.hid (evs_most f a)
    go_loopw [6, 7, 8] (fun u v z wr => ∃ (k : Nat) (l : List Ev) (rn : Nat), a ≤ k ∧ k ≤ 64 ∧ z = .int .i64 k ∧ v = .int .i64 ((k : Int) - 1 - rn) ∧ rn ≤ k ∧ l.length ≤ k ∧ wr.ownsRow (B + 1) 40 3 u l.length (cellsV l) ∧ Hid (evs f a k = (l, rn) ∧ bad f a k = false) ∧ Below (B + 1) wA wr ∧ B + 1 ≤ wr.heap.size) (fun _ _ z _ => 64 - (intOf z).toNat)
    case atStart => exact ⟨a, [], 0, Nat.le_refl _, by omega, rfl, by simp, Nat.zero_le _, Nat.zero_le _, World.ownsRow_nil _ _ _ _, Lib.hid ⟨evs_start f a a (Nat.le_refl _), bad_start f a a (Nat.le_refl _)⟩, Below.refl _ _, by omega⟩
    case round =>
      obtain ⟨k, l, rn, hak, hk, rfl, rfl, hrn, hln, hown, hst, hb, hz⟩ := hrel
      by_cases hlt : k < 64
      · have t0 : decide ((k : Int) < 64) = true := by simp; omega
        have hc := HC.out k hlt wr hb
        by_cases h0 : f k = 0
        · rw [h0] at hc
          go_wp2
          go_roundw
          case rel => exact ⟨k + 1, l, rn + 1, by omega, by omega, by go_num, by go_num, by omega, by omega, hown, Lib.hid ⟨by rw [evs_nought (by omega) h0, hst.out.1], by rw [bad, hst.out.2, h0]; simp [okl]⟩, hb, hz⟩
          case measure => simp [intOf]; omega
        · obtain ⟨y, hy⟩ : ∃ y, f k = y := ⟨_, rfl⟩
          rw [hy] at hc
          have g0 : (y == 0) = false := by rw [← hy]; simpa using h0
          have HNE := Lib.hid h0
          clear h0
          by_cases hok : 127 < y ∨ y < -127
          · have F := Lib.hid (show evG f (a : Int) = ([], 7) by
              rw [G.out, if_pos (bad_at hak hlt (by
                rw [hy]
                cases h2 : okl y with
                | false => rfl
                | true => have := okl_iff.1 h2; omega))])
            by_cases h1 : 127 < y
            · have t3 : decide (127 < y) = true := by simpa using h1
              go_wp2
              go_ret2
              exact ev_none F.out (by rw [HB.out]; exact hbA.trans (hb.mono (by omega)))
            · have t3 : decide (127 < y) = false := by simpa using h1
              have t4 : decide (y < -127) = true := by simp; omega
              go_wp2
              go_ret2
              exact ev_none F.out (by rw [HB.out]; exact hbA.trans (hb.mono (by omega)))
          · have ST := Lib.hid (show evs f a (k + 1) = (l ++ [(false, (rn : Int), y)], 0) ∧ bad f a (k + 1) = false from ⟨by rw [evs_one (by omega) HNE.out, hst.out.1, hy], by rw [bad, hst.out.2, hy, okl_iff.2 ⟨by omega, by omega⟩]; simp⟩)
            have t3 : decide (127 < y) = false := by simp; omega
            have t4 : decide (y < -127) = false := by simp; omega
            have sw1 : IntKind.i64.wrap ((k : Int) - ((k : Int) - 1 - (rn : Int))) = 1 + (rn : Int) := by rw [IntWalk.i64_in _ (by omega)]; omega
            go_wp2_with (at_builtin; refine wp_append_evA (y0 := false) (y1 := 1 + (rn : Int) - 1) (y2 := y) rfl rfl Try.underlying23 hj kz0 rfl kz1 kz2 rfl (hown.alloc _) rfl ?d1 ?d2 ?d3 ?d4 ?d5 ?_; (case d1 => go_cell); (case d2 => go_cell); (case d3 => go_cell); (case d4 => omega); (case d5 => (simp; omega)); intro v2 w2 ho3 hgrow hat; rw [show 1 + (rn : Int) - 1 = (rn : Int) by omega] at ho3; have hb4 := (hb.alloc hz _).grown hgrow (by simp; omega) (fun q hq => (hown.lt q hq).1); have hz4 : B + 1 ≤ w2.heap.size := Nat.le_trans (by simp; omega) hgrow.size; clear hgrow)
            go_roundw
            case rel => exact ⟨k + 1, l ++ [(false, (rn : Int), y)], 0, by omega, by omega, by go_num, by go_num, by omega, by rw [List.length_append]; simp; omega, by rw [List.length_append, cellsV_snoc]; exact ho3, Lib.hid ST.out, hb4, hz4⟩
            case measure => simp [intOf]; omega
      · obtain rfl : k = 64 := by omega
        have F := Lib.hid (show evG f (a : Int) = (mark l, 0) by rw [G.out, hst.out.2, hst.out.1]; rfl)
        have hfa : ∀ x ∈ l, x.1 = false := by have := evs_false f a 64; rw [hst.out.1] at this; exact this
        obtain ⟨n, hn⟩ : ∃ n, l.length = n := ⟨_, rfl⟩
        have hform : ∃ (q : Option Addr) (cap : Nat), u6 = .slice q n cap := by
          rcases hown.2 with ⟨h1, h2⟩ | ⟨g, cap, cur, h1, _⟩
          · exact ⟨none, 0, by rw [h1, ← hn, h2]⟩
          · exact ⟨_, cap, by rw [h1, hn]⟩
        obtain ⟨q, cap, rfl⟩ := hform
        have ho0 : wr.ownsRow (B + 1) 40 3 (.slice q n cap) n (cellsV (uptoV 0 l)) := by rw [uptoV_zero hfa, ← hn] at *; exact hown
        have HN := Lib.hid hn
        rw [hn] at hln
        clear hst hown hfa hn
        go_wp2
        go_loopw [9] (fun z wx => ∃ i : Nat, i ≤ n ∧ z = .int .i64 i ∧ wx.ownsRow (B + 1) 40 3 (.slice q n cap) n (cellsV (uptoV i l)) ∧ Below (B + 1) wA wx ∧ B + 1 ≤ wx.heap.size) (fun z _ => n - (intOf z).toNat)
        case atStart => exact ⟨0, Nat.zero_le _, rfl, ho0, hb, hz⟩
        case round =>
          clear ho0 hb hz
          obtain ⟨i, hi, rfl, hown, hb, hz⟩ := hrel
          by_cases hlt2 : i < n
          · have t5 : decide ((i : Int) < (n : Int)) = true := by simp; omega
            have t6 : decide (i < n) = true := by simpa using hlt2
            obtain ⟨g, cap', hq, hBg, hglt⟩ := hown.form (by omega)
            simp only [Value.slice.injEq, true_and] at hq
            obtain ⟨rfl, rfl⟩ := hq
            have hil : i < l.length := by rw [HN.out]; exact hlt2
            have hiu : i < (uptoV i l).length := by rw [uptoV_len]; exact hil
            have c0 : wr.cell? ⟨g, 3 * i, none⟩ = some (.bool ((uptoV i l)[i]'hiu).1) := by
              rw [hown.cellAt (3 * i) (by omega)]
              exact (cellsV_at (uptoV i l) i hiu).1
            have f0 := hown.frozenAt (3 * i)
            obtain ⟨b, hbb⟩ : ∃ b, decide (i + 1 = l.length) = b := ⟨_, rfl⟩
            have hst := hown.stored (3 * i) (.bool b)
            rw [cellsV_set b (uptoV i l) i hiu, ← hbb, uptoV_more i l hil, hbb] at hst
            have hbs := hb.setCell (show B + 1 ≤ (⟨g, 3 * i, none⟩ : Addr).block from hBg) (.bool b)
            have ST := Lib.hid hst
            have HBS := Lib.hid hbs
            have hbb2 : ((i : Int) + 1 == (n : Int)) = b := by
              rw [← hbb, HN.out]
              by_cases e : i + 1 = n
              · rw [decide_eq_true e, beq_iff_eq]; omega
              · rw [decide_eq_false e, beq_eq_false_iff_ne]; omega
            generalize ((uptoV i l)[i]'hiu).1 = y0 at c0
            have q1 : i * 3 = 3 * i := Nat.mul_comm _ _
            clear hst hbs hbb hown hiu hil
            go_wp2
            go_roundw
            case rel => exact ⟨i + 1, by omega, by go_num, ST.out.1, HBS.out, Nat.le_trans hz ST.out.2.size⟩
            case measure => simp [intOf]; omega
          · obtain rfl : i = n := by omega
            have t5 : decide ((i : Int) < (i : Int)) = false := by simp
            have t6 : decide (i < i) = false := by simp
            have HO := Lib.hid (show wr.ownsRow w.heap.size 40 3 (.slice q i cap) (mark l).length (cellsV (mark l)) by
              have h := owns_lower hown (b' := w.heap.size) (by have := HB.out; omega)
              rw [mark_len, HN.out, ← uptoV_all, HN.out]
              exact h)
            clear hown
            go_wp2
            go_ret2
            exact ev_some F.out HO.out (by rw [HB.out]; exact hbA.trans (hb.mono (by omega)))
  · have G := Lib.hid (show evG f a0 = ([], 1) by unfold evG; rw [if_neg hf])
    generalize hZ : arrA f = Z at hbA ⊢
    have HBA := Lib.hid (show Below w.heap.size w (w.alloc (.cells Z 22 (0, 0))) by rw [← hZ]; exact hbA)
    clear hZ hbA
    by_cases h0 : a0 < 0
    · have t0 : decide (a0 < 0) = true := by simpa using h0
      go_enter Try.func7, Try.ntmps7
      go_wp2
      go_ret2
      exact ev_none G.out HBA.out
    · have t0 : decide (a0 < 0) = false := by simpa using h0
      have t1 : decide (1 < a0) = true := by simp; omega
      go_enter Try.func7, Try.ntmps7
      go_wp2
      go_ret2
      exact ev_none G.out HBA.out
end Go.Proofs.Ytppbejnjcogcmaa
