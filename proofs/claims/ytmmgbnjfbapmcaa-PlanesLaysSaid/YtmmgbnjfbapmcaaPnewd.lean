/- New frames of the document's: all samples one number. No condition. -/
import Derived.Test.YtmmgbnjfbapmcaaPnew
import Derived.Laws.OwnMore
namespace Go.Proofs.Ytmmgbnjfbapmcaa
open Go.RowKit Go.Lib

theorem make_bytes (n : Nat) (w : World) (hn : n ≤ 1073741824) : ∃ w', (Instr.makeSlice 22 (.int .i64 (n : Int)) (.int .i64 (n : Int))).run Try.prog w = .ok (.slice (some ⟨w.heap.size, 0, none⟩) n n) w' ∧
    OwnPl w' (.slice (some ⟨w.heap.size, 0, none⟩) n n) w.heap.size n (fun _ => 0) ∧ w.grownBy w' none := by
  obtain ⟨i, hi, hz, hs, hb⟩ := info_parts (show (Try.prog.info? 5).map (fun i => (i.zero, i.size, i.bytes)) = some (some (Value.int IntKind.u8 0), 1, 1) by kernel_rfl)
  obtain ⟨w', h1, h2, h3⟩ := run_make_full (P := Try.prog) w w.heap.size 22 5 i (.int .u8 0) 1 Try.underlying22 hi hz hs .i64 .i64 n (by rw [hb]; omega) (by unfold maxLen; omega) (Nat.le_refl _)
  refine ⟨w', h1, ⟨n, rfl, Nat.le_refl _, fun j hj => ?_⟩, h3⟩
  rcases h2.2 with ⟨h4, _⟩ | ⟨g, cap, cur, h4, _, hh, _, _, _, ht⟩
  · cases h4
  · injection h4 with h4 _ h5
    injection h4 with h4
    injection h4 with h4
    subst h4
    rw [Nat.mul_one, show (Value.int IntKind.u8 0).cells = #[.int .u8 0] from rfl, toList_madeCells_one] at ht
    refine ⟨?_, frozen_of_row w' _ j _ _ hh, Int.le_refl 0, by show (0 : Int) ≤ 255; omega⟩
    rw [cell_of_row w' _ j _ _ _ hh]
    have e := congrArg (fun l => l[j]?) ht
    simpa [List.getElem?_take, List.getElem?_replicate, hj] using e
/-- What the document's New gives of a format that there is. -/
def NewdGives (k : Int) (f : Nat → Nat → Int) (w : World) (e : Ending) (w' : World) : Prop :=
  ∃ v g, e = .returned (.agg (frA k v)) ∧ OwnFr w' w.heap.size v g (siz k) f ∧ Below w.heap.size w w'
set_option maxRecDepth 1000000 in
set_option maxHeartbeats 8000000 in
theorem new_page (k s : Int) (w : World) (hk : isFmt k = true) : Calls Try.prog 15 #[.int .i64 k, .int .i64 s] w (NewdGives k (fun _ _ => clip s 0 255) w) := by
  have c2 := fun w => clip_page s 0 255 w
  have hr : 0 ≤ clip s 0 255 ∧ clip s 0 255 ≤ 255 := ⟨clip_lo _ _ _, clip_hi _ _ _ (by omega)⟩
  have hu : IntKind.u8.wrap (clip s 0 255) = clip s 0 255 := by rw [IntKind.wrap_u8]; omega
  have HN := Lib.hid (fun p => siz_some hk p)
  have HM := Lib.hid (fun p => siz_most k p)
  generalize clip s 0 255 = y at *
  obtain ⟨B, wA, wB, hB, hwA, hwB, hzA, hzB, hC0, hC1, hbC⟩ := laid2 w (.cells (frA 0 nilV) 25 (0, 0)) (.cells (frA k nilV) 25 (0, 0))
  unfold frA frL nilV at hwA hwB
  have HWA := Lib.hid hwA
  have HWB := Lib.hid hwB
  have HB := Lib.hid hB
  have HP0 := Lib.hid (PlSo.none wB (B + 2) (fun _ => 0) (siz k) (fun _ _ => y))
  have CW := Lib.hid (fun p hp w => wide_page k p hp w)
  have CH := Lib.hid (fun p hp w => high_page k p hp w)
  clear hwA hwB hB hk hzA
  go_enter Try.func15, Try.ntmps15
  go_wp2
  rw [HWA.out, HB.out, HWB.out]
  go_loopw [6] (fun z wr => ∃ i : Nat, i ≤ 3 ∧ z = .int .i64 i ∧ ∃ v g, wr.heap[B]? = some (frO 25 0 nilV) ∧ wr.heap[B + 1]? = some (frO 25 k v) ∧ PlSo wr (B + 2) v g (siz k) (fun _ _ => y) i ∧ Below B w wr ∧ B + 2 ≤ wr.heap.size) (fun z _ => 3 - (RowKit.intOf z).toNat)
  case atStart => exact ⟨0, by omega, rfl, nilV, fun _ => 0, hC0, hC1, HP0.out, hbC, by omega⟩
  case round =>
    clear hC0 hC1 hbC hzB HP0
    obtain ⟨i, hi, rfl, v, g, h0, h1, hP, hb, hz⟩ := hrel
    by_cases hlt : i < 3
    · have t0 : decide ((i : Int) < 3) = true := by simp; omega
      have c3 := CW.out i hlt
      have c4 := CH.out i hlt
      have hn0 := HN.out i
      have hnm := HM.out i
      have HPH := Lib.hid hP
      have H0 := Lib.hid h0
      have H1 := Lib.hid h1
      have HBB := Lib.hid hb
      clear h0 h1 hP hb
      have hs : (wid k i : Int) * (hei k i : Int) = (siz k i : Int) := (Int.natCast_mul _ _).symm
      generalize hN : siz k i = N at hn0 hnm hs
      have HNN := Lib.hid hN
      clear hN
      generalize wid k i = W at *
      generalize hei k i = H at *
      go_wp2_with fail
      refine (c3 _).mono ?_
      rintro e x1 ⟨rfl, hb1⟩
      go_wp2_with fail
      refine (c4 _).mono ?_
      rintro e x2 ⟨rfl, hb2⟩
      generalize wr = wo at *
      obtain ⟨x3, hmk, hown, hg3⟩ := make_bytes N x2 (by omega)
      have hb3 : Below wo.heap.size wo x3 := hb1.trans ((hb2.mono hb1.size).trans ((Below.refl _ x2).grown hg3 (by have := hb1.size; have := hb2.size; omega) (by intro k hk; cases hk)))
      have hR2 : wo.heap.size ≤ x2.heap.size := by have := hb1.size; have := hb2.size; omega
      have hR3 := hown.lt hn0
      generalize x2.heap.size = R at hmk hown hR2 hR3
      clear hb1 hb2 hg3
      have HO := Lib.hid hown
      have HB3 := Lib.hid hb3
      go_wp2
      go_loopw [8] (fun z wr => ∃ j : Nat, j ≤ N ∧ z = .int .i64 j ∧ Hid (OwnPl wr (.slice (some ⟨R, 0, none⟩) N N) R N (fun t => if t < j then y else 0)) ∧ x3.grownBy wr (some R)) (fun z _ => N - (RowKit.intOf z).toNat)
      case atStart => exact ⟨0, by omega, rfl, HO.out.congr (fun i _ => by rw [if_neg (by omega)]), ⟨rfl, rfl, rfl, Nat.le_refl _, fun _ _ _ => rfl⟩⟩
      case round =>
        clear hown hmk hb3
        obtain ⟨j, hj, rfl, HO2, hg⟩ := hrel
        have HG := Lib.hid hg
        clear hg
        by_cases hlj : j < N
        · have t1 : decide ((j : Int) < (N : Int)) = true := by simp; omega
          obtain ⟨ox, e0, -, e2⟩ := HO2.out
          obtain ⟨c0, f0, -⟩ := e2 j hlj
          have PUT := Lib.hid ((HO2.out.set j y hr hlj).congr (f' := fun t => if t < j + 1 then y else 0) (fun t _ => by
            show (if t = j then y else if t < j then y else 0) = _
            by_cases e : t = j
            · rw [if_pos e, if_pos (by omega)]
            · rw [if_neg e]
              by_cases e3 : t < j
              · rw [if_pos e3, if_pos (by omega)]
              · rw [if_neg e3, if_neg (by omega)]))
          have PG := Lib.hid (grown_trans HG.out (grownBy_setCell wr ⟨R, j, none⟩ (.int .u8 y)))
          clear e0 e2 hR2 hR3
          go_wp2_with (with_reducible refine (c2 _).mono ?_; rintro e w1 ⟨rfl, rfl⟩)
          go_roundw
          case rel => exact ⟨j + 1, by omega, by go_num, PUT.out, PG.out⟩
          case measure => simp [RowKit.intOf]; omega
        · obtain rfl : j = N := by omega
          have t1 : decide ((j : Int) < (j : Int)) = false := by simp
          have hbq : Below wo.heap.size wo wr := HB3.out.grown HG.out HB3.out.size (fun k hk => by injection hk with hk; omega)
          have hx : OwnPl wr (.slice (some ⟨R, 0, none⟩) j j) R j (fun _ => y) := HO2.out.congr (fun t ht => by rw [if_pos ht])
          have h03 := (hbq.block B (by omega)).trans H0.out
          have h13 := (hbq.block (B + 1) (by omega)).trans H1.out
          have cc := fr_cell h13 hlt
          have ff := fr_free h13 (1 + i)
          have PUT := Lib.hid (⟨setV v i (.slice (some ⟨R, 0, none⟩) j j), _, heap_set h03 (by simp), fr_put h13 hlt _, (HPH.out.next HN.out hbq hz (by rw [HNN.out]; exact hx) hR2).set (by simp) _, (HBB.out.trans (hbq.mono (by omega))).setCell (by simp) _, by have := hbq.size; simp [World.setCell]; omega⟩ : ∃ v g, (wr.setCell ⟨B + 1, 1 + i, none⟩ (.slice (some ⟨R, 0, none⟩) j j)).heap[B]? = some (frO 25 0 nilV) ∧ (wr.setCell ⟨B + 1, 1 + i, none⟩ (.slice (some ⟨R, 0, none⟩) j j)).heap[B + 1]? = some (frO 25 k v) ∧ PlSo (wr.setCell ⟨B + 1, 1 + i, none⟩ (.slice (some ⟨R, 0, none⟩) j j)) (B + 2) v g (siz k) (fun _ _ => y) (i + 1) ∧ Below B w (wr.setCell ⟨B + 1, 1 + i, none⟩ (.slice (some ⟨R, 0, none⟩) j j)) ∧ B + 2 ≤ (wr.setCell ⟨B + 1, 1 + i, none⟩ (.slice (some ⟨R, 0, none⟩) j j)).heap.size)
          clear h03 h13 hbq hx hR2 hR3
          go_wp2
          go_roundw
          case rel => exact ⟨i + 1, by omega, by go_num, PUT.out⟩
          case measure => simp [RowKit.intOf]; omega
    · obtain rfl : i = 3 := by omega
      have t0 : decide ((3 : Int) < 3) = false := by simp
      have hA := hP.all
      have HSV := fr_sized fr_size k v
      have HOV := fr_ones k v hA.ones
      have HYV : (frA 0 nilV).size = (frA k v).size := rfl
      have h0' : wr.heap[B]? = some (.cells (frA 0 nilV) 25 (0, 0)) := h0
      have h1' : wr.heap[B + 1]? = some (.cells (frA k v) 25 (0, 0)) := h1
      have HA := Lib.hid hA
      clear h0 h1 hA hP
      obtain ⟨Z, hZ⟩ : ∃ Z, frA k v = Z := ⟨_, rfl⟩
      rw [hZ] at HSV HOV HYV h1'
      have HZ := Lib.hid hZ
      clear hZ
      generalize frA 0 nilV = Y at *
      go_wp2_with (first | (with_reducible refine wpList_load_row rfl 25 _ rfl (B + 1) rfl 25 Z (0, 0) _ h1' Try.underlying25 rfl HSV ?_) | (with_reducible refine wp_store_arr rfl 25 _ _ rfl B Z Y rfl rfl 25 h0' HSV HYV HOV ?_; intro w2 hh2 hg2))
      refine bodyPost_ret (results_cell_row rfl _ _ B 25 _ (0, 0) _ rfl hh2 Try.underlying25 rfl HSV) rfl ?_
      refine ⟨v, g, by rw [HZ.out], ?_, ?_⟩
      · rw [HB.out]
        refine (HA.out.mono (by omega)).keep fun p hp => hg2.block _ ((HA.out.pl p hp).lt (HN.out p)) ?_
        have := HA.out.from_ p hp
        intro e
        injection e with e
        omega
      · rw [HB.out]
        exact hb.grown hg2 (by omega) (fun k hk => by injection hk with hk; omega)
end Go.Proofs.Ytmmgbnjfbapmcaa
