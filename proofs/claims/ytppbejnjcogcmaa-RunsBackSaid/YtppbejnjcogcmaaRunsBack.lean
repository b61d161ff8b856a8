/- Levels are read from their events, and events from their levels; there are as many events as levels that are not 0; and the chapter's examples come out. Condition: none but the law's own (up to 100 events). -/
import Derived.Test.YtppbejnjcogcmaaRows
import Derived.Test.YtppbejnjcogcmaaRlive
import Derived.Test.YtppbejnjcogcmaaLaws
import Derived.ProofKit
namespace Go.Proofs.Ytppbejnjcogcmaa
open Go.ChangeShapes Go.WideShapes Go.ChangeAt Go.RowKit

theorem evG_most (f : Nat → Int) (a : Int) : (evG f a).1.length ≤ 64 := by
  unfold evG
  split
  · split
    · exact Nat.zero_le _
    · rw [mark_len]
      have := evs_most f a.toNat 64
      omega
  · exact Nat.zero_le _
/-- Where the events of levels are told, they lead back. -/
theorem evG_back {f : Nat → Int} {a : Int} (h : (evG f a).2 = 0) : ∃ k : Nat, a = (k : Int) ∧ k ≤ 1 ∧ (evG f a).1.length = (evs f k 64).1.length ∧ (lvG (evG f a).1 a).2 = 0 ∧ (∀ i, k ≤ i → i < 64 → (lvG (evG f a).1 a).1 i = f i) ∧ ∀ i, i < k → (lvG (evG f a).1 a).1 i = 0 := by
  have h01 : a = 0 ∨ a = 1 := by
    refine Classical.byContradiction fun hn => ?_
    unfold evG at h
    rw [if_neg hn] at h
    cases h
  have hb : bad f a.toNat 64 = false := by
    cases hb : bad f a.toNat 64 with
    | false => rfl
    | true =>
      unfold evG at h
      rw [if_pos h01, if_pos hb] at h
      cases h
  have hk : a = ((a.toNat : Nat) : Int) := by omega
  have hk1 : a.toNat ≤ 1 := by omega
  have he : (evG f a).1 = mark (evs f a.toNat 64).1 := by
    unfold evG
    rw [if_pos h01, if_neg (by rw [hb]; decide)]
  obtain ⟨l1, l2⟩ := levels_events (f := f) (a := a.toNat) (by omega) hb
  have hl : lvG (evG f a).1 a = ((lvS a.toNat (mark (evs f a.toNat 64).1)).2, 0) := by
    unfold lvG
    rw [if_pos h01, he, if_neg (by rw [l1]; decide)]
  refine ⟨a.toNat, hk, hk1, by rw [he, mark_len], by rw [hl], fun i h1 h2 => ?_, fun i h1 => ?_⟩
  · rw [hl]
    simp only
    rw [l2, if_pos ⟨h1, h2⟩]
  · rw [hl]
    simp only
    rw [l2, if_neg (by omega)]
/-- Where the levels of events are told, they lead back; else they are noughts. -/
theorem lvG_back {l : List Ev} {a : Int} (h : (lvG l a).2 = 0) : evG (lvG l a).1 a = (l, 0) := by
  have h01 : a = 0 ∨ a = 1 := by
    refine Classical.byContradiction fun hn => ?_
    unfold lvG at h
    rw [if_neg hn] at h
    cases h
  have hb : badV a.toNat l l.length = false := by
    cases hb : badV a.toNat l l.length with
    | false => rfl
    | true =>
      unfold lvG at h
      rw [if_pos h01, if_pos hb] at h
      cases h
  have hl : (lvG l a).1 = (lvS a.toNat l).2 := by
    unfold lvG
    rw [if_pos h01, if_neg (by rw [hb]; decide)]
  obtain ⟨e1, e2⟩ := events_levels (a := a.toNat) (by omega) hb
  rw [hl]
  unfold evG
  rw [if_pos h01, if_neg (by rw [e1]; decide), e2]
theorem lvG_none {l : List Ev} {a : Int} (h : (lvG l a).2 ≠ 0) : (lvG l a).1 = fun _ => 0 := by
  unfold lvG at h ⊢
  split
  · split
    · rfl
    · rename_i h1 h2
      rw [if_pos h1, if_neg h2] at h
      exact absurd rfl h
  · rfl
set_option maxRecDepth 100000 in
set_option maxHeartbeats 4000000 in
theorem runsBack_walk (f : Nat → Int) (p : Option Addr) (n c : Nat) (a : Int) (w : World) (_ : ∀ i, i < 64 → (Lit.int .i64 (f i)).wf = true) (hx : RowsAt w EvCells 3 p n) (hn : n ≤ maxLen) (_ : (Lit.int .i64 a).wf = true) :
    Calls Try.prog 5 #[.agg (arrA f), .slice p n c, .int .i64 a] w fun e w' => e = .returned (.bool true) ∧ Below w.heap.size w w' := by
  obtain ⟨L, rfl, hp, _⟩ := rows_evs hx
  unfold maxLen at hn
  obtain ⟨B, hB⟩ : ∃ B, w.heap.size = B := ⟨_, rfl⟩
  obtain ⟨Z, hZ⟩ : ∃ Z, arrA f = Z := ⟨_, rfl⟩
  have HSZ : (Try.prog.info? 22).map (·.size) = some Z.size := by rw [← hZ]; exact arr_sized _
  obtain ⟨wA, hwA⟩ : ∃ wA, w.alloc (.cells Z 22 (0, 0)) = wA := ⟨_, rfl⟩
  have hzA : wA.heap.size = B + 1 := by rw [← hwA, ← hB]; simp
  have hhA : wA.heap[B]? = some (.cells Z 22 (0, 0)) := by rw [← hwA, ← hB]; exact heap_alloc_new w _
  have hbA : Below B w wA := by rw [← hwA, ← hB]; exact (Below.refl _ w).alloc (Nat.le_refl _) _
  have HWA := Lib.hid hwA
  have HB := Lib.hid hB
  have hev := fun x => events_code f a x
  rw [hZ] at hev ⊢
  have hhF : wA.heap[B]? = some (arrO f) := by rw [hhA, ← hZ]; rfl
  clear hwA hx
  by_cases h100 : 100 < L.length
  · have t0 : decide (100 < (L.length : Int)) = true := by simp; omega
    generalize L.length = n at h100 t0 ⊢
    have t1 : decide (100 < n) = true := by simpa using h100
    clear hp hn h100 hB hev hhA hhF hZ
    go_enter Try.func5, Try.ntmps5
    go_wp2_with fail
    rw [HWA.out]
    refine (lives10 _).mono ?_
    rintro e w1 ⟨rfl, hb1⟩
    go_wp2
    go_ret
    exact ⟨rfl, by rw [HB.out]; exact hbA.trans (hb1.mono (by omega))⟩
  · have t0 : decide (100 < (L.length : Int)) = false := by simp; omega
    have t1 : decide (100 < L.length) = false := by simpa using h100
    have HP := Lib.hid (fun (x : World) (hb : Below B w x) => (hp.below (by rw [hB]; exact hb) : EvsIn x p L))
    obtain ⟨Y, hY⟩ : ∃ Y, arrA (fun _ => 0) = Y := ⟨_, rfl⟩
    have hzv : ∀ w, (zeroValue 22).run Try.prog w = .ok (.agg Y) w := by rw [← hY]; exact arr_zero
    have hbz : ∀ w, (Instr.build 22 #[]).run Try.prog w = .ok (.agg Y) w := by rw [← hY]; exact built_zero
    have heq : ∀ w, (Op.equalIn 10000 22 (.agg Y) (.agg Y)).run Try.prog w = .ok true w := by rw [← hY]; exact fun w => (arr_equal _ _ w).trans (by rw [arrEq_iff.2 fun _ _ => rfl])
    have hYS : ∀ g : Nat → Int, Y.size = (arrA g).size := fun g => by rw [← hY, arrA_size, arrA_size]
    have hlv := fun (x : World) (hb : Below B w x) => levels_code p L c a x (HP.out x hb) (by omega)
    have hln : L.length ≤ 100 := by omega
    unfold LvGives at hlv
    have BACK := Lib.hid (fun (h : (lvG L a).2 = 0) => lvG_back h)
    have NONE := Lib.hid (fun (h : (lvG L a).2 ≠ 0) => (by rw [lvG_none h, hY] : arrA (lvG L a).1 = Y))
    obtain ⟨m, hm⟩ : ∃ m, (lvG L a).1 = m := ⟨_, rfl⟩
    obtain ⟨z3, hz3⟩ : ∃ z3, (lvG L a).2 = z3 := ⟨_, rfl⟩
    rw [hm, hz3] at hlv
    rw [hm, hz3] at BACK NONE
    have HLV := Lib.hid hlv
    have hev3 := fun x => events_code m a x
    unfold EvGives at hev hev3
    have EV3 := Lib.hid hev3
    clear hm hz3 hlv hev3 hp hn h100 hB hZ hY
    have hSm := hYS m
    have HSM : (Try.prog.info? 22).map (·.size) = some (arrA m).size := arr_sized _
    have HOM := arrA_one m
    go_enter Try.func5, Try.ntmps5
    go_wp2_with (rw [HWA.out, HB.out]; with_reducible refine wpList_load_row rfl 22 _ rfl B rfl 22 Z (0, 0) _ hhA Try.underlying22 rfl HSZ ?_)
    refine (hev _).mono ?_
    rintro e w1 ⟨v, rfl, ho1, hb1⟩
    have hbw1 := hbA.trans (hb1.mono (by omega))
    have hz1 := hb1.size
    have hmost := evG_most f a
    have hback := evG_back (f := f) (a := a)
    obtain ⟨q1, c1, rfl, hq1⟩ := owns_evs ho1
    have hh1 : w1.heap[B]? = some (arrO f) := (hb1.block B (by omega)).trans hhF
    by_cases h0 : (evG f a).2 = 0
    · obtain ⟨k, rfl, hk1, hlen, hl2, hg1, hg0⟩ := hback h0
      have hlv1 := levels_code q1 (evG f (k : Int)).1 c1 (k : Int) w1 hq1 (by omega)
      unfold LvGives at hlv1
      rw [hl2] at hlv1
      rw [h0]
      clear hev hback hl2 ho1 hq1 h0
      generalize (lvG (evG f (k : Int)).1 (k : Int)).1 = g at hlv1 hg1 hg0
      generalize (evG f (k : Int)).1.length = n1 at hlv1 hmost hlen ⊢
      have HLEN := Lib.hid hlen
      clear hlen
      have hSg := hYS g
      have HSG : (Try.prog.info? 22).map (·.size) = some (arrA g).size := arr_sized _
      have HOG := arrA_one g
      go_wp2_with fail
      refine hlv1.mono ?_
      rintro e w2 ⟨rfl, hb2⟩
      have hz2 := hb2.size
      have hbw2 := hbw1.trans (hb2.mono (by omega))
      have hh2 := (hb2.block B (by omega)).trans hh1
      obtain ⟨X9, hX9⟩ : ∃ X9, w2.heap.size = X9 := ⟨_, rfl⟩
      have hh3 := heap_alloc_new w2 (.cells Y 22 (0, 0))
      have hb3 := hbw2.alloc (by omega) (.cells Y 22 (0, 0))
      have hk3 := heap_keep (ob := .cells Y 22 (0, 0)) hh2
      rw [hX9] at hh3
      generalize hw3 : w2.alloc (.cells Y 22 (0, 0)) = w3 at hh3 hb3 hk3
      have HW3 := Lib.hid hw3
      have HX9 := Lib.hid hX9
      have K2 : ∀ (x : World), w3.grownBy x (some X9) → Below B w x ∧ B + 1 ≤ x.heap.size ∧ x.heap[B]? = some (arrO f) := fun x hg => ⟨hb3.grown hg (by rw [← hw3]; simp; omega) (fun k hk => by injection hk with hk; omega), Nat.le_trans (by rw [← hw3]; simp; omega) hg.size, (hg.block B (by rw [← hw3]; simp; omega) (by intro e; injection e with e; omega)).trans hk3⟩
      clear hw3 hX9 hb2 hbw2 hz2 hb3 hk3 hh2 hlv1 hh1
      go_wp2_with (first | (rw [HW3.out, HX9.out]; with_reducible refine wp_store_arr rfl 22 _ _ rfl X9 (arrA g) Y rfl rfl 22 hh3 HSG hSg HOG ?_; intro w4 hh4 hg4; obtain ⟨hb5, hz5, hhB5⟩ := K2 _ hg4; clear K2 hg4))
      obtain ⟨S, hS⟩ : ∃ S, w4.heap.size = S := ⟨_, rfl⟩
      have hX9S : X9 < S := by rw [← hS]; exact (Array.getElem?_eq_some_iff.1 hh4).1
      have CELLS := Lib.hid (fun (x : World) (hx : Below S w4 x) => (⟨(hx.block X9 (by omega)).trans hh4, (hx.block B (by omega)).trans hhB5, hb5.trans (hx.mono (by omega)), by have := hx.size; omega⟩ : x.heap[X9]? = some (arrO g) ∧ x.heap[B]? = some (arrO f) ∧ Below B w x ∧ B + 1 ≤ x.heap.size))
      have MOST := Lib.hid (evs_most f k)
      have HG1 := Lib.hid hg1
      clear hh4 hhB5 hb5 hz5 hg1
      go_loopw [11, 12] (fun u v wr => ∃ (i cnt : Nat), k ≤ i ∧ i ≤ 64 ∧ v = .int .i64 i ∧ u = .int .i64 cnt ∧ cnt ≤ i ∧ Hid ((evs f k i).1.length = cnt) ∧ Below S w4 wr) (fun _ v _ => 64 - (intOf v).toNat)
      case atStart => exact ⟨k, 0, Nat.le_refl _, by omega, rfl, rfl, Nat.zero_le _, Lib.hid (by rw [evs_start f k k (Nat.le_refl _)]; rfl), Below.refl _ _⟩
      case round =>
        obtain ⟨i, cnt, hki, hi, rfl, rfl, hcnt, hct, hb⟩ := hrel
        obtain ⟨h9, hB0, hbw, hzw⟩ := CELLS.out _ hb
        by_cases hlt : i < 64
        · have u0 : decide ((i : Int) < 64) = true := by simp; omega
          have c0 := arr_cell h9 hlt
          have d0 := arr_cell hB0 hlt
          rw [HG1.out i hki hlt] at c0
          have hbd := hb.drew
          by_cases hf0 : f i = 0
          · have CT := Lib.hid (show (evs f k (i + 1)).1.length = cnt by rw [evs_nought hki hf0]; exact hct.out)
            rw [hf0] at c0 d0
            have e0 : wr.drew.cell? ⟨B, i, none⟩ = some (.int .i64 0) := d0
            clear hct h9 hB0 hbw
            go_wp2
            go_region
            go_wp2
            go_roundw
            case rel => exact ⟨i + 1, cnt, by omega, by omega, by go_num, rfl, by omega, Lib.hid CT.out, hbd⟩
            case measure => simp [intOf]; omega
          · have CT := Lib.hid (show (evs f k (i + 1)).1.length = cnt + 1 by rw [evs_one hki hf0, List.length_append, hct.out]; rfl)
            obtain ⟨y, hy⟩ : ∃ y, f i = y := ⟨_, rfl⟩
            rw [hy] at c0 d0 hf0
            have e0 : wr.drew.cell? ⟨B, i, none⟩ = some (.int .i64 y) := d0
            have g5 : (y == 0) = false := by simpa using hf0
            have g6 : (y != 0) = true := by simpa using hf0
            clear hct h9 hB0 hbw hy hf0
            go_wp2
            go_region
            go_wp2
            go_roundw
            case rel => exact ⟨i + 1, cnt + 1, by omega, by omega, by go_num, by go_num, by omega, Lib.hid CT.out, hbd⟩
            case measure => simp [intOf]; omega
        · obtain rfl : i = 64 := by omega
          have hcn : cnt = n1 := by rw [HLEN.out]; exact hct.out.symm
          subst hcn
          have c0 := arr_cell (i := 0) h9 (by omega)
          clear hct h9 hB0 hb hX9S
          rcases (by omega : k = 0 ∨ k = 1) with rfl | rfl
          · clear c0
            go_wp2_with fail
            refine (HLV.out _ hbw).mono ?_
            rintro e w2 ⟨rfl, hb2⟩
            have hz2 := hb2.size
            have hbw2 := hbw.trans (hb2.mono (by omega))
            obtain ⟨X, hX⟩ : ∃ X, w2.heap.size = X := ⟨_, rfl⟩
            have hh3 := heap_alloc_new w2 (.cells Y 22 (0, 0))
            have hb3 := hbw2.alloc (by omega) (.cells Y 22 (0, 0))
            rw [hX] at hh3
            generalize hw3 : w2.alloc (.cells Y 22 (0, 0)) = w3 at hh3 hb3
            have HW3 := Lib.hid hw3
            have HX := Lib.hid hX
            have K2 : ∀ (x : World), w3.grownBy x (some X) → Below B w x ∧ B + 1 ≤ x.heap.size := fun x hg => ⟨hb3.grown hg (by rw [← hw3]; simp; omega) (fun k hk => by injection hk with hk; omega), Nat.le_trans (by rw [← hw3]; simp; omega) hg.size⟩
            clear hw3 hX hb2 hbw2 hz2 hb3
            by_cases hzz : z3 = 0
            · subst hzz
              have hev3 := EV3.out
              rw [BACK.out rfl] at hev3
              go_wp2_with (first | (rw [HW3.out, HX.out]; with_reducible refine wp_store_arr rfl 22 _ _ rfl X (arrA m) Y rfl rfl 22 hh3 HSM hSm HOM ?_; intro w4 hh4 hg4; obtain ⟨hb5, hz5⟩ := K2 _ hg4; clear K2 hg4 hzv) | (with_reducible refine wpList_load_row rfl 22 _ rfl X rfl 22 (arrA m) (0, 0) _ hh4 Try.underlying22 rfl HSM ?_))
              refine (hev3 _).mono ?_
              rintro e w5 ⟨v5, rfl, ho5, hb6⟩
              have hb7 := hb5.trans (hb6.mono (by omega))
              have hz6 := hb6.size
              obtain ⟨q5, c5, rfl, hq5⟩ := owns_evs ho5
              have hsm := same_page q5 p L L c5 c w5 hq5 (HP.out _ hb7) (by omega)
              rw [show decide (L = L) = true from decide_eq_true rfl] at hsm
              clear hq5 ho5 hb6 hb5
              go_wp2_with fail
              refine hsm.mono ?_
              rintro e w6 ⟨rfl, hb8⟩
              have hz8 := hb8.size
              have hb9 := hb7.trans (hb8.mono (by omega))
              go_wp2_with fail
              refine (lives10 _).mono ?_
              rintro e w7 ⟨rfl, hb10⟩
              have hb11 := hb9.trans (hb10.mono (by omega))
              go_wp2
              go_ret
              exact ⟨rfl, by rw [HB.out]; exact hb11⟩
            · have hmY := NONE.out hzz
              have g3 : (z3 == 0) = false := by simpa using hzz
              have g4 : (z3 != 0) = true := by simpa using hzz
              rw [hmY] at HSM HOM hSm ⊢
              go_wp2_with (first | (rw [HW3.out, HX.out]; with_reducible refine wp_store_arr rfl 22 _ _ rfl X Y Y rfl rfl 22 hh3 HSM rfl HOM ?_; intro w4 hh4 hg4; obtain ⟨hb5, hz5⟩ := K2 _ hg4; clear K2 hg4) | (with_reducible refine wpList_load_row rfl 22 _ rfl X rfl 22 Y (0, 0) _ hh4 Try.underlying22 rfl HSM ?_))
              refine (lives10 _).mono ?_
              rintro e w7 ⟨rfl, hb10⟩
              have hb11 := hb5.trans (hb10.mono (by omega))
              go_wp2
              go_ret
              exact ⟨rfl, by rw [HB.out]; exact hb11⟩
          · rw [hg0 0 (by omega)] at c0
            go_wp2_with fail
            refine (HLV.out _ hbw).mono ?_
            rintro e w2 ⟨rfl, hb2⟩
            have hz2 := hb2.size
            have hbw2 := hbw.trans (hb2.mono (by omega))
            obtain ⟨X, hX⟩ : ∃ X, w2.heap.size = X := ⟨_, rfl⟩
            have hh3 := heap_alloc_new w2 (.cells Y 22 (0, 0))
            have hb3 := hbw2.alloc (by omega) (.cells Y 22 (0, 0))
            rw [hX] at hh3
            generalize hw3 : w2.alloc (.cells Y 22 (0, 0)) = w3 at hh3 hb3
            have HW3 := Lib.hid hw3
            have HX := Lib.hid hX
            have K2 : ∀ (x : World), w3.grownBy x (some X) → Below B w x ∧ B + 1 ≤ x.heap.size := fun x hg => ⟨hb3.grown hg (by rw [← hw3]; simp; omega) (fun k hk => by injection hk with hk; omega), Nat.le_trans (by rw [← hw3]; simp; omega) hg.size⟩
            clear hw3 hX hb2 hbw2 hz2 hb3
            by_cases hzz : z3 = 0
            · subst hzz
              have hev3 := EV3.out
              rw [BACK.out rfl] at hev3
              go_wp2_with (first | (rw [HW3.out, HX.out]; with_reducible refine wp_store_arr rfl 22 _ _ rfl X (arrA m) Y rfl rfl 22 hh3 HSM hSm HOM ?_; intro w4 hh4 hg4; obtain ⟨hb5, hz5⟩ := K2 _ hg4; clear K2 hg4 hzv) | (with_reducible refine wpList_load_row rfl 22 _ rfl X rfl 22 (arrA m) (0, 0) _ hh4 Try.underlying22 rfl HSM ?_))
              refine (hev3 _).mono ?_
              rintro e w5 ⟨v5, rfl, ho5, hb6⟩
              have hb7 := hb5.trans (hb6.mono (by omega))
              have hz6 := hb6.size
              obtain ⟨q5, c5, rfl, hq5⟩ := owns_evs ho5
              have hsm := same_page q5 p L L c5 c w5 hq5 (HP.out _ hb7) (by omega)
              rw [show decide (L = L) = true from decide_eq_true rfl] at hsm
              clear hq5 ho5 hb6 hb5
              go_wp2_with fail
              refine hsm.mono ?_
              rintro e w6 ⟨rfl, hb8⟩
              have hz8 := hb8.size
              have hb9 := hb7.trans (hb8.mono (by omega))
              go_wp2_with fail
              refine (lives10 _).mono ?_
              rintro e w7 ⟨rfl, hb10⟩
              have hb11 := hb9.trans (hb10.mono (by omega))
              go_wp2
              go_ret
              exact ⟨rfl, by rw [HB.out]; exact hb11⟩
            · have hmY := NONE.out hzz
              have g3 : (z3 == 0) = false := by simpa using hzz
              have g4 : (z3 != 0) = true := by simpa using hzz
              rw [hmY] at HSM HOM hSm ⊢
              go_wp2_with (first | (rw [HW3.out, HX.out]; with_reducible refine wp_store_arr rfl 22 _ _ rfl X Y Y rfl rfl 22 hh3 HSM rfl HOM ?_; intro w4 hh4 hg4; obtain ⟨hb5, hz5⟩ := K2 _ hg4; clear K2 hg4) | (with_reducible refine wpList_load_row rfl 22 _ rfl X rfl 22 Y (0, 0) _ hh4 Try.underlying22 rfl HSM ?_))
              refine (lives10 _).mono ?_
              rintro e w7 ⟨rfl, hb10⟩
              have hb11 := hb5.trans (hb10.mono (by omega))
              go_wp2
              go_ret
              exact ⟨rfl, by rw [HB.out]; exact hb11⟩
    · have g0 : ((evG f a).2 == 0) = false := by simpa using h0
      clear hback hev hq1 ho1 hh1
      generalize (evG f a).1.length = n1 at hmost ⊢
      generalize (evG f a).2 = z1 at g0 h0 ⊢
      have hbw := hbw1
      go_wp2_with fail
      refine (HLV.out _ hbw).mono ?_
      rintro e w2 ⟨rfl, hb2⟩
      have hz2 := hb2.size
      have hbw2 := hbw.trans (hb2.mono (by omega))
      obtain ⟨X, hX⟩ : ∃ X, w2.heap.size = X := ⟨_, rfl⟩
      have hh3 := heap_alloc_new w2 (.cells Y 22 (0, 0))
      have hb3 := hbw2.alloc (by omega) (.cells Y 22 (0, 0))
      rw [hX] at hh3
      generalize hw3 : w2.alloc (.cells Y 22 (0, 0)) = w3 at hh3 hb3
      have HW3 := Lib.hid hw3
      have HX := Lib.hid hX
      have K2 : ∀ (x : World), w3.grownBy x (some X) → Below B w x ∧ B + 1 ≤ x.heap.size := fun x hg => ⟨hb3.grown hg (by rw [← hw3]; simp; omega) (fun k hk => by injection hk with hk; omega), Nat.le_trans (by rw [← hw3]; simp; omega) hg.size⟩
      clear hw3 hX hb2 hbw2 hz2 hb3
      by_cases hzz : z3 = 0
      · subst hzz
        have hev3 := EV3.out
        rw [BACK.out rfl] at hev3
        go_wp2_with (first | (rw [HW3.out, HX.out]; with_reducible refine wp_store_arr rfl 22 _ _ rfl X (arrA m) Y rfl rfl 22 hh3 HSM hSm HOM ?_; intro w4 hh4 hg4; obtain ⟨hb5, hz5⟩ := K2 _ hg4; clear K2 hg4 hzv) | (with_reducible refine wpList_load_row rfl 22 _ rfl X rfl 22 (arrA m) (0, 0) _ hh4 Try.underlying22 rfl HSM ?_))
        refine (hev3 _).mono ?_
        rintro e w5 ⟨v5, rfl, ho5, hb6⟩
        have hb7 := hb5.trans (hb6.mono (by omega))
        have hz6 := hb6.size
        obtain ⟨q5, c5, rfl, hq5⟩ := owns_evs ho5
        have hsm := same_page q5 p L L c5 c w5 hq5 (HP.out _ hb7) (by omega)
        rw [show decide (L = L) = true from decide_eq_true rfl] at hsm
        clear hq5 ho5 hb6 hb5
        go_wp2_with fail
        refine hsm.mono ?_
        rintro e w6 ⟨rfl, hb8⟩
        have hz8 := hb8.size
        have hb9 := hb7.trans (hb8.mono (by omega))
        go_wp2_with fail
        refine (lives10 _).mono ?_
        rintro e w7 ⟨rfl, hb10⟩
        have hb11 := hb9.trans (hb10.mono (by omega))
        go_wp2
        go_ret
        exact ⟨rfl, by rw [HB.out]; exact hb11⟩
      · have hmY := NONE.out hzz
        have g3 : (z3 == 0) = false := by simpa using hzz
        have g4 : (z3 != 0) = true := by simpa using hzz
        rw [hmY] at HSM HOM hSm ⊢
        go_wp2_with (first | (rw [HW3.out, HX.out]; with_reducible refine wp_store_arr rfl 22 _ _ rfl X Y Y rfl rfl 22 hh3 HSM rfl HOM ?_; intro w4 hh4 hg4; obtain ⟨hb5, hz5⟩ := K2 _ hg4; clear K2 hg4) | (with_reducible refine wpList_load_row rfl 22 _ rfl X rfl 22 Y (0, 0) _ hh4 Try.underlying22 rfl HSM ?_))
        refine (lives10 _).mono ?_
        rintro e w7 ⟨rfl, hb10⟩
        have hb11 := hb5.trans (hb10.mono (by omega))
        go_wp2
        go_ret
        exact ⟨rfl, by rw [HB.out]; exact hb11⟩

theorem runsBack_own : ownKnob Try.prog.godebug = none := by kernel_rfl
theorem runsBack_laid : laidOutB Try.prog = true := by kernel_rfl
theorem runsBack_reads : Try.f5.params.toList.all (fun t => Try.prog.readableRec t && decide (t < Try.prog.types.size)) = true := by kernel_rfl

set_option maxRecDepth 100000 in
theorem runsBack_lifted (os : Os) (started : os.Started) (H : Type) (enc : TypeId × Value → H) :
    ReturnsInHanded {} Try.checked os 5 .any (Rows.runsBackSpec.pre6 enc Try.prog Try.f5 Rows.runsBackRow.domain false) (Rows.runsBackSpec.post enc Try.prog Try.f5 false true false false) := by
  refine returnsInHanded_of_change (C := Try.checked) runsBack_own started (by kernel_rfl) Try.func5
    (ChangeSpec.witness6 (enc := enc) (C := Try.checked) false ⟨#[], #[.agg (arrA fun _ => 0), .slice none 0 0, .int .i64 0], []⟩ 8 (by kernel_rfl) (by kernel_rfl) (by kernel_rfl) (by kernel_rfl)) ?_
  intro W base args ds gs before hval0 hW hcnd _
  have hval : ∀ (j : Nat) t v, Try.f5.params[j]? = some t → args[j]? = some v → Value.okWide Try.prog W .any base t v := hval0
  have hW' := hW
  obtain ⟨p, q, hA0, hV, rfl, hfz, hnd⟩ := hW
  have hA : DataW.TrodAll enc Try.prog W 0 (fun _ => true) true Try.f5.params.toList args.toList ds p := hA0
  rw [Try.params5] at hA hval
  obtain ⟨v0, vs0, d0, ds0, p0, q0, hargs, rfl, rfl, h0, r0⟩ := trodAll_cons hA
  obtain ⟨v1, vs1, d1, ds1, p1, q1, rfl, rfl, rfl, h1, r1⟩ := trodAll_cons r0
  obtain ⟨v2, vs2, d2, ds2, p2, q2, rfl, rfl, rfl, h2, r2⟩ := trodAll_cons r1
  obtain ⟨rfl, rfl, rfl⟩ := trodAll_nil r2
  obtain rfl : args = #[v0, v1, v2] := by cases args; simp_all
  obtain ⟨rfl, rfl⟩ := trodVars_none hV
  obtain ⟨f0, rfl, w0⟩ := open_arr Try.underlying22 Try.underlying3 (by kernel_rfl) (by kernel_rfl) (hval 0 22 v0 rfl rfl) h0
  obtain ⟨p1, l1, c1, rfl, w1, x1⟩ := open_rows 3 _ Try.underlying23 (by kernel_rfl) (by decide) (ev_struct Try.underlying40 Try.underlying4 Try.underlying3 rfl rfl rfl rfl rfl rfl (by kernel_rfl) (by kernel_rfl)) (hval 1 23 v1 rfl rfl) h1
  obtain ⟨a2, rfl, rfl, rfl, w2⟩ := open_int Try.underlying3 (hval 2 3 v2 rfl rfl) h2
  clear hA0 hval0
  refine (runsBack_walk f0 p1 l1 c1 a2 W w0 x1 w1 w2).mono fun e W' ⟨he, hb⟩ => ?_
  subst he
  exact ⟨_, rfl, law_end runsBack_laid runsBack_reads rfl Try.underlying4 rfl hW' rfl hb⟩

theorem runsBack_over : Rows.runsBackRow.holds Try.pinned (OpenSpec.ofChange Rows.runsBackSpec) :=
  OpenClaim.holds_of_wide 5 Try.f5 rfl rfl rfl rfl rfl rfl rfl ⟨rfl, rfl, rfl, rfl, rfl⟩ rfl rfl rfl rfl rfl (by kernel_rfl) Try.func5 (by kernel_rfl)
    (of_decide_eq_true (by kernel_rfl)) (by unfold Func.isWrapper; first | (rw [if_pos (by decide +kernel)]; kernel_rfl) | (rw [if_neg (by decide +kernel)]; exact ⟨rfl, rfl⟩))
    (fun os started H enc _ => runsBack_lifted os started H enc)

theorem runsBack_holds : Rows.RunsBackSaid :=
  runsBack_over
#print axioms runsBack_holds
end Go.Proofs.Ytppbejnjcogcmaa
