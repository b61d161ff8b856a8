/- Package runs: the events of levels, by its code. No condition. -/
import Derived.Test.YtppbejnjcogcmaaRuns
import Derived.RegionTactic
import Derived.Deep.RegionWith
import Derived.Deep.CutRange
import Derived.Deep.DeepCutAuto
namespace Go.Proofs.Ytppbejnjcogcmaa
open Go.RowKit Go.Lib

theorem may_code (a : Int) (w : World) : Calls Try.prog 12 #[.int .i64 a] w fun e w' => e = .returned (.bool (a == 0 || a == 1)) ∧ w = w' := by
  cases h0 : (a == 0)
  all_goals
    go_enter Try.func12, Try.ntmps12
    go_wp2
    go_ret
    exact ⟨rfl, rfl⟩
/-- What Events gives. -/
def EvGives (f : Nat → Int) (a : Int) (w : World) (e : Ending) (w' : World) : Prop :=
  ∃ v, e = .returned (.tuple #[v, .int .i64 (evG f a).2]) ∧ w'.ownsRow w.heap.size 40 3 v (evG f a).1.length (cellsV (evG f a).1) ∧ Below w.heap.size w w'
theorem ev_none {f : Nat → Int} {a : Int} {w w' : World} {z : Int} (h : evG f a = ([], z)) (hb : Below w.heap.size w w') : EvGives f a w (.returned (.tuple #[.slice none 0 0, .int .i64 z])) w' := by
  unfold EvGives
  rw [h]
  exact ⟨_, rfl, World.ownsRow_nil _ _ _ _, hb⟩
theorem ev_some {f : Nat → Int} {a : Int} {w w' : World} {l : List Ev} {v : Value} (h : evG f a = (l, 0)) (ho : w'.ownsRow w.heap.size 40 3 v l.length (cellsV l)) (hb : Below w.heap.size w w') : EvGives f a w (.returned (.tuple #[v, .int .i64 0])) w' := by
  unfold EvGives
  rw [h]
  exact ⟨_, rfl, ho, hb⟩
theorem owns_lower {w : World} {b b' e size n : Nat} {v : Value} {xs : List Value} (h : w.ownsRow b e size v n xs) (hb : b' ≤ b) : w.ownsRow b' e size v n xs := by
  refine ⟨h.1, ?_⟩
  rcases h.2 with h | ⟨g, cap, cur, hv, hg, rest⟩
  · exact .inl h
  · exact .inr ⟨g, cap, cur, hv, Nat.le_trans hb hg, rest⟩
set_option maxRecDepth 100000 in
set_option maxHeartbeats 2000000 in
theorem events_code (f : Nat → Int) (a0 : Int) (w : World) : Calls Try.prog 6 #[.agg (arrA f), .int .i64 a0] w (EvGives f a0 w) := by
  have hbA : Below w.heap.size w (w.alloc (arrO f)) := (Below.refl _ w).alloc (Nat.le_refl _) _
  have hmay := fun x => may_code a0 x
  obtain ⟨i1, hj, kz0, kz1, kz2⟩ := info_parts info_ev
  by_cases hf : a0 = 0 ∨ a0 = 1
  · rw [show (a0 == 0 || a0 == 1) = true by simp; exact hf] at hmay
    obtain ⟨a, rfl⟩ : ∃ a : Nat, a0 = (a : Int) := ⟨a0.toNat, by omega⟩
    have ha1 : a ≤ 1 := by omega
    have G := Lib.hid (show evG f (a : Int) = if bad f a 64 then ([], 7) else (mark (evs f a 64).1, 0) by unfold evG; rw [if_pos hf, Int.toNat_natCast])
    obtain ⟨B, hB⟩ : ∃ B, w.heap.size = B := ⟨_, rfl⟩
    obtain ⟨wA, hwA⟩ : ∃ wA, w.alloc (.cells (arrA f) 22 (0, 0)) = wA := ⟨_, rfl⟩
    have hzA : wA.heap.size = B + 1 := by rw [← hwA, ← hB]; simp
    have hhA : wA.heap[B]? = some (arrO f) := by rw [← hwA, ← hB]; exact heap_alloc_new w _
    have hbA : Below B w wA := by rw [← hwA, ← hB]; exact hbA
    have HIX := Lib.hid (fun (k : Nat) (h : k < 64) (x : World) => arr_index f h x)
    have HB := Lib.hid hB
    have HWA := Lib.hid hwA
    have HSZ := arr_sized f
    clear hf
    obtain ⟨Z, hZ⟩ : ∃ Z, arrA f = Z := ⟨_, rfl⟩
    have HH := Lib.hid (show wA.heap[B]? = some (.cells Z 22 (0, 0)) by rw [← hZ]; exact hhA)
    rw [hZ] at HIX HWA HSZ ⊢
    clear hZ hB hwA hhA
    go_enter Try.func6, Try.ntmps6
    go_wp2_with fail
    rw [HWA.out, HB.out]
    refine (hmay _).mono ?_
    rintro e w1 ⟨rfl, rfl⟩
    go_wp2_with (with_reducible refine wpList_load_row rfl 22 _ rfl B rfl 22 Z (0, 0) _ HH.out Try.underlying22 rfl HSZ ?_)
    have HXW := Lib.hid (evs_most f a)
    go_loopw [6, 7, 16] (fun u v z wr => ∃ (k : Nat) (l : List Ev) (rn : Nat), k ≤ 64 ∧ z = .int .i64 k ∧ v = .int .i64 rn ∧ rn ≤ k ∧ l.length ≤ k ∧ wr.ownsRow (B + 1) 40 3 u l.length (cellsV l) ∧ Hid (evs f a k = (l, rn) ∧ bad f a k = false) ∧ Below (B + 1) wA wr ∧ B + 1 ≤ wr.heap.size) (fun _ _ z _ => 64 - (intOf z).toNat)
    case atStart => exact ⟨0, [], 0, by omega, rfl, rfl, Nat.le_refl _, Nat.le_refl _, World.ownsRow_nil _ _ _ _, Lib.hid ⟨rfl, rfl⟩, Below.refl _ _, by omega⟩
    case round =>
      obtain ⟨k, l, rn, hk, rfl, rfl, hrn, hln, hown, hst, hb, hz⟩ := hrel
      by_cases hlt : k < 64
      · have t0 : decide ((k : Int) < 64) = true := by simp; omega
        have hix := HIX.out k hlt
        by_cases hka : k < a
        · have t1 : decide ((k : Int) < (a : Int)) = true := by simp; omega
          go_wp2
          go_roundw
          case rel => exact ⟨k + 1, l, rn, by omega, by go_num, rfl, by omega, by omega, hown, Lib.hid ⟨by rw [evs_skip hka]; exact hst.out.1, by rw [bad, hst.out.2, decide_eq_false (by omega)]; rfl⟩, hb, hz⟩
          case measure => simp [intOf]; omega
        · have t1 : decide ((k : Int) < (a : Int)) = false := by simp; omega
          by_cases h0 : f k = 0
          · rw [h0] at hix
            go_wp2
            go_roundw
            case rel => exact ⟨k + 1, l, rn + 1, by omega, by go_num, by go_num, by omega, by omega, hown, Lib.hid ⟨by rw [evs_nought (by omega) h0, hst.out.1], by rw [bad, hst.out.2, h0]; simp [okl]⟩, hb, hz⟩
            case measure => simp [intOf]; omega
          · have g0 : (f k == 0) = false := by simpa using h0
            obtain ⟨y, hy⟩ : ∃ y, f k = y := ⟨_, rfl⟩
            rw [hy] at hix g0
            have hri := fun x => right_code false (rn : Int) y x
            obtain ⟨X, hX⟩ : ∃ X, wr.heap.size = X := ⟨_, rfl⟩
            obtain ⟨wx, hwx⟩ : ∃ wx, wr.alloc (.cells #[.bool false, .int .i64 (rn : Int), .int .i64 y] 40 (0, 0)) = wx := ⟨_, rfl⟩
            have hzx : wx.heap.size = X + 1 := by rw [← hwx, ← hX]; simp
            have hhx : wx.heap[X]? = some (evObj false (rn : Int) y) := by rw [← hwx, ← hX]; exact heap_alloc_new wr _
            have hbx : Below (B + 1) wA wx := by rw [← hwx]; exact hb.alloc hz _
            have hox : wx.ownsRow (B + 1) 40 3 u6 l.length (cellsV l) := by rw [← hwx]; exact hown.alloc _
            have hBX : B + 1 ≤ X := by omega
            have HX := Lib.hid hX
            have HWX := Lib.hid hwx
            have hokl : rightT (rn : Int) y = okl y := by
              have h1 : y ≠ 0 := by rw [← hy]; exact h0
              cases h2 : okl y with
              | true => have h3 := okl_iff.1 h2; exact rightT_iff.2 ⟨by omega, by omega, h3.1, h3.2, h1⟩
              | false =>
                cases h4 : rightT (rn : Int) y with
                | false => rfl
                | true => have h5 := rightT_iff.1 h4; rw [okl_iff.2 ⟨h5.2.2.1, h5.2.2.2.1⟩] at h2; cases h2
            rw [hokl] at hri
            have HNE := Lib.hid h0
            clear hX hwx hokl h0
            cases hok : okl y with
            | false =>
              have F := Lib.hid (show evG f (a : Int) = ([], 7) by rw [G.out, if_pos (bad_at (by omega) hlt (by rw [hy]; exact hok))])
              rw [hok] at hri
              go_wp2_with fail
              rw [HWX.out]
              refine (hri _).mono ?_
              rintro e w1 ⟨rfl, hb1⟩
              have hb2 := hbx.trans (hb1.mono (by omega))
              go_wp2
              go_ret2
              exact ev_none F.out (by rw [HB.out]; exact hbA.trans (hb2.mono (by omega)))
            | true =>
              have ST := Lib.hid (show evs f a (k + 1) = (l ++ [(false, (rn : Int), y)], 0) ∧ bad f a (k + 1) = false from ⟨by rw [evs_one (by omega) HNE.out, hst.out.1, hy], by rw [bad, hst.out.2, hy, hok]; simp⟩)
              rw [hok] at hri
              go_wp2_with fail
              rw [HWX.out, HX.out]
              refine (hri _).mono ?_
              rintro e w1 ⟨rfl, hb1⟩
              have hb2 := hbx.trans (hb1.mono (by omega))
              have hz2 : B + 1 ≤ w1.heap.size := by have := hb1.size; omega
              have hh2 : w1.heap[X]? = some (evObj false (rn : Int) y) := (hb1.block X (by omega)).trans hhx
              have ho2 := hox.kept (below_grownBy hb1 none) (Classical.em _)
              obtain ⟨c0, c1, c2, _, _, _⟩ := ev_cells hh2
              clear hbx hhx hox hb1 hh2 hzx
              go_wp2_with (at_builtin; refine wp_append_evA (y0 := false) (y1 := (rn : Int)) (y2 := y) rfl rfl Try.underlying23 hj kz0 rfl kz1 kz2 rfl (ho2.alloc _) rfl ?d1 ?d2 ?d3 ?d4 ?d5 ?_; (case d1 => go_cell); (case d2 => go_cell); (case d3 => go_cell); (case d4 => omega); (case d5 => (simp; omega)); intro v2 w2 ho3 hgrow hat; have hb4 := (hb2.alloc hz2 _).grown hgrow (by simp; omega) (fun q hq => (ho2.lt q hq).1); have hz4 : B + 1 ≤ w2.heap.size := Nat.le_trans (by simp; omega) hgrow.size; clear hgrow)
              go_roundw
              case rel => exact ⟨k + 1, l ++ [(false, (rn : Int), y)], 0, by omega, by go_num, rfl, by omega, by rw [List.length_append]; simp; omega, by rw [List.length_append, cellsV_snoc]; exact ho3, Lib.hid ST.out, hb4, hz4⟩
              case measure => simp [intOf]; omega
      · obtain rfl : k = 64 := by omega
        have F := Lib.hid (show evG f (a : Int) = (mark l, 0) by rw [G.out, hst.out.2, hst.out.1]; rfl)
        have hfa : ∀ x ∈ l, x.1 = false := by have := evs_false f a 64; rw [hst.out.1] at this; exact this
        have hbw : Below w.heap.size w wr := by rw [HB.out]; exact hbA.trans (hb.mono (by omega))
        have HBW := Lib.hid hbw
        clear hst hbw
        cases hl : l with
        | nil =>
          subst hl
          have ho : ∃ (q : Option Addr) (cap : Nat), u6 = .slice q 0 cap := by
            rcases hown.2 with ⟨rfl, _⟩ | ⟨g, cap, cur, rfl, _⟩
            · exact ⟨none, 0, rfl⟩
            · exact ⟨_, cap, rfl⟩
          obtain ⟨q, cap, rfl⟩ := ho
          have ho2 : wr.ownsRow w.heap.size 40 3 (.slice q 0 cap) 0 (cellsV []) := owns_lower hown (by have := HB.out; omega)
          have HO := Lib.hid ho2
          clear ho2 hown
          go_wp2
          go_ret2
          exact ev_some (l := []) F.out HO.out HBW.out
        | cons x l' =>
          obtain ⟨n, hn⟩ : ∃ n, l.length = n + 1 := ⟨l'.length, by rw [hl]; rfl⟩
          obtain ⟨g, cap, rfl, hBg, hglt⟩ := hown.form (by omega)
          have c0 : wr.cell? ⟨g, 3 * n, none⟩ = some (.bool (l[n]'(by omega)).1) := by
            rw [hown.cellAt (3 * n) (by omega)]
            exact (cellsV_at l n (by omega)).1
          have f0 := hown.frozenAt (3 * n)
          have hst := (hown.stored (3 * n) (.bool true)).1
          rw [cellsV_set true l n (by omega), mark_set hfa hn] at hst
          have ho2 : (wr.setCell ⟨g, 3 * n, none⟩ (.bool true)).ownsRow w.heap.size 40 3 (.slice (some ⟨g, 0, none⟩) (mark l).length cap) (mark l).length (cellsV (mark l)) := by
            rw [mark_len]
            exact owns_lower hst (by have := HB.out; omega)
          have hbw : Below w.heap.size w (wr.setCell ⟨g, 3 * n, none⟩ (.bool true)) := HBW.out.setCell (by have := HB.out; show _ ≤ g; omega) _
          have HO := Lib.hid ho2
          have HBW2 := Lib.hid hbw
          have HM := Lib.hid (show (mark l).length = n + 1 by rw [mark_len, hn])
          rw [hn]
          have t0 : decide ((0 : Int) < (n : Int) + 1) = true := by rw [decide_eq_true_iff]; omega
          have qw : wrap64 (n : Int) = (n : Int) := IntWalk.wrap64_in _ (by omega)
          have q1 : n * 3 = 3 * n := Nat.mul_comm _ _
          generalize (l[n]'(by omega)).1 = y0 at c0
          clear ho2 hown hst hbw hl hn hfa HBW
          go_wp2
          go_ret2
          have h := HO.out
          have hm := HM.out
          rw [hm] at h
          exact ev_some (l := mark l) F.out (by rw [hm]; exact h) HBW2.out
  · have G := Lib.hid (show evG f a0 = ([], 1) by unfold evG; rw [if_neg hf])
    rw [show (a0 == 0 || a0 == 1) = false by simp; omega] at hmay
    generalize hZ : arrA f = Z at hbA ⊢
    have HBA := Lib.hid (show Below w.heap.size w (w.alloc (.cells Z 22 (0, 0))) by rw [← hZ]; exact hbA)
    clear hZ hf hbA
    go_enter Try.func6, Try.ntmps6
    go_wp2_with fail
    refine (hmay _).mono ?_
    rintro e w1 ⟨rfl, rfl⟩
    go_wp2
    go_ret2
    exact ev_none G.out HBA.out
end Go.Proofs.Ytppbejnjcogcmaa
