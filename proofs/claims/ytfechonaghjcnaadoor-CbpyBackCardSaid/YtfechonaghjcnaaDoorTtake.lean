/- What a Table of package prefix takes from a Reader. Conditions: texts of at most 2^47 bytes; the table's codes in their order, none of which begins another one. -/
import Derived.Test.YtfechonaghjcnaaDoorTable
import Derived.RegionTactic
import Derived.Deep.RegionWith
namespace Go.Proofs.YtfechonaghjcnaaDoor
open Go.RowKit Go.Maps

/-- What Take gives. -/
def TTake (ds : List (ByteArray × Int)) (s : ByteArray) (rb p : Nat) (w : World) (e : Ending) (w' : World) : Prop :=
  ∃ v : Int, e = .returned (.tuple #[.int .i64 v, .int .i64 (tk (ds.map rowC) ((showL s.data.toList).drop p) 25 1).1]) ∧
    ((tk (ds.map rowC) ((showL s.data.toList).drop p) 25 1).1 = 0 → ∃ x ∈ ds, rowC x = ((showL s.data.toList).drop p).take (tk (ds.map rowC) ((showL s.data.toList).drop p) 25 1).2 ∧ x.2 = v) ∧
    ((tk (ds.map rowC) ((showL s.data.toList).drop p) 25 1).1 ≠ 0 → v = 0) ∧ IsRd w' rb s (p + (tk (ds.map rowC) ((showL s.data.toList).drop p) 25 1).2) ∧ w.grownBy w' (some rb)
theorem ttake_not {ds : List (ByteArray × Int)} {s : ByteArray} {rb p : Nat} {w w' : World} {f : Int} (h : tk (ds.map rowC) ((showL s.data.toList).drop p) 25 1 = (f, 0)) (hf : f ≠ 0) (hr : IsRd w' rb s p) (hg : w.grownBy w' (some rb)) :
    TTake ds s rb p w (.returned (.tuple #[.int .i64 0, .int .i64 f])) w' := by
  unfold TTake
  rw [h]
  exact ⟨0, rfl, fun e => absurd e hf, fun _ => rfl, hr, hg⟩
theorem ttake_yes {ds : List (ByteArray × Int)} {s : ByteArray} {rb p n : Nat} {w w' : World} {v : Int} (h : tk (ds.map rowC) ((showL s.data.toList).drop p) 25 1 = (0, n)) (hx : ∃ x ∈ ds, rowC x = ((showL s.data.toList).drop p).take n ∧ x.2 = v) (hr : IsRd w' rb s (p + n)) (hg : w.grownBy w' (some rb)) :
    TTake ds s rb p w (.returned (.tuple #[.int .i64 v, .int .i64 0])) w' := by
  unfold TTake
  rw [h]
  exact ⟨v, rfl, fun _ => hx, fun e => absurd rfl e, hr, hg⟩

set_option maxRecDepth 100000 in
set_option maxHeartbeats 8000000 in
theorem ttake_low (w : World) (lo N tb rb : Nat) (ds : List (ByteArray × Int)) (L : Int) (s : ByteArray) (p : Nat) (ht : IsTbL w lo N tb ds L) (hr : IsRd w rb s p) (hN : rb < lo ∨ N ≤ rb)
    (hs : ds.Pairwise fun x y => leL (rowC x) (rowC y) = true) (hf : free (ds.map rowC)) (ho : ∀ x ∈ ds, okRow (rowC x) = true) :
    Calls Tryd.prog 22 #[.pointer (some ⟨tb, 0, none⟩), .pointer (some ⟨rb, 0, none⟩)] w (TTake ds s rb p w) := by
  obtain ⟨m, q, cap, h1, h2, h3, hc, _, hq⟩ := ht
  have c1 : w.cell? ⟨tb, 1, none⟩ = some (.slice q ds.length cap) := part_cells h1 rfl
  obtain ⟨bs, hbs⟩ : ∃ bs, (showL s.data.toList).drop p = bs := ⟨_, rfl⟩
  have hbl : bs.length = 8 * s.size - p := by rw [← hbs, List.length_drop, showL_length]; rfl
  have hpl := hr.2.1
  obtain ⟨B, hB⟩ : ∃ B, w.heap.size = B := ⟨_, rfl⟩
  have hb0 : Below B w w := Below.refl _ _
  have HB := Lib.hid hB
  have SO := Lib.hid hs
  have FR := Lib.hid hf
  have OK := Lib.hid ho
  have HBS := Lib.hid hbs
  have BL := Lib.hid hbl
  have HQ := Lib.hid hq
  have hd0 : those rowC ds (bs.take 0) = ds := by rw [List.take_zero]; exact those_nil rowC ds
  have D0 := Lib.hid hd0
  have hrow0 : ∀ x ∈ ds, 0 < x.1.size ∧ x.1.size ≤ 24 := fun x hx => by
    have h := okRow_inv (ho x hx)
    have h1 : (rowC x).length = x.1.size := rfl
    have h2 := List.length_pos_iff.2 h.1
    omega
  have R0 := Lib.hid hrow0
  have C0 := Lib.hid hc
  clear h1 hB hs hf ho hbs hbl hq hd0 hc hrow0
  go_enter Tryd.func22, Tryd.ntmps22
  go_wp2
  go_loopw [7, 8] (fun u v wr => ∃ (n : Nat) (a : Option Addr) (l : List (ByteArray × Int)) (cap : Nat), v = .int .i64 ((n : Int) + 1) ∧ u = .slice a l.length cap ∧ l.length ≤ cap ∧ cap ≤ maxLen ∧ Hid (l = those rowC ds (bs.take n)) ∧ Cds wr a l ∧ Hid (∀ x, a = some x → lo ≤ x.block ∧ x.block < N) ∧ n ≤ 23 ∧ n ≤ bs.length ∧
    Hid (tk (ds.map rowC) bs 25 1 = tk (ds.map rowC) bs (25 - n) (n + 1)) ∧ Hid (∀ x ∈ l, n < x.1.size ∧ x.1.size ≤ 24) ∧ Below B w wr ∧ IsRd wr rb s p) (fun _ v _ => 25 - (intOf v).toNat)
  case atStart => exact ⟨0, q, ds, cap, rfl, rfl, h2, h3, Lib.hid D0.out.symm, C0.out, Lib.hid HQ.out, by omega, Nat.zero_le _, Lib.hid rfl, Lib.hid R0.out, hb0, hr⟩
  case round =>
    clear hb0 hr h2 h3 c1
    obtain ⟨n, a, l, cap, rfl, rfl, hl1, hl2, hl, hc, ha, hn, hnb, htk, hrow, hb, hr⟩ := hrel
    unfold maxLen at hl2
    have hunf : tk (ds.map rowC) bs (25 - n) (n + 1) = if bs.length < n + 1 then (2, 0) else if bs.take (n + 1) ∈ ds.map rowC then (0, n + 1) else if (ds.map rowC).any (fun r => (bs.take (n + 1)).isPrefixOf r) = true then tk (ds.map rowC) bs (24 - n) (n + 1 + 1) else (3, 0) := by
      rw [show 25 - n = (24 - n) + 1 by omega, tk]
    have U := Lib.hid (htk.out.trans hunf)
    clear hunf htk
    go_wp2_with fail
    refine (peek_code _ _ _ _ ((n : Int) + 1) hr).mono ?_
    rintro e w1 ⟨rfl, hb1⟩
    have hr1 := hr.below hb1
    have hc1 := hc.below hb1
    have hb2 : Below B w w1 := hb.trans (hb1.mono (by rw [← HB.out]; exact hb.size))
    have hg1 : w.grownBy w1 (some rb) := by
      rw [← HB.out] at hb2
      exact ⟨hb2.os, hb2.tape, hb2.output, hb2.size, fun k hk _ => hb2.block k hk⟩
    clear hr hc hb hb1
    by_cases hsh : bs.length < n + 1
    · have hask : ask s.data.toList p ((n : Int) + 1) = (0, 2) := ask_short (by omega) (by rw [BL.out] at hsh; have : s.data.toList.length = s.size := rfl; omega)
      have F := Lib.hid (U.out.trans (if_pos hsh))
      rw [hask]
      clear hsh
      go_wp2
      go_ret2
      exact ttake_not (by rw [HBS.out]; exact F.out) (by decide) hr1 hg1
    · have hfit : p + (n + 1) ≤ 8 * s.size := by rw [BL.out] at hsh; omega
      have hask : ask s.data.toList p ((n : Int) + 1) = (((tell s.data.toList p (n + 1) : Nat) : Int), 0) := by
        have := ask_ok (l := s.data.toList) (p := p) (n := (n : Int) + 1) (by omega) (by have : s.data.toList.length = s.size := rfl; omega)
        rw [this, show ((n : Int) + 1).toNat = n + 1 by omega]
      have U2 := Lib.hid (U.out.trans (if_neg hsh))
      obtain ⟨hnl, hdig⟩ := tell_last s.data.toList p n hfit
      have hdig2 : ∃ c : UInt8, (c = 48 ∨ c = 49) ∧ bs[n]? = some c ∧ tell s.data.toList p (n + 1) % 2 + 48 = c.toNat := by
        have e : bs[n]? = some ((showL s.data.toList).drop p)[n] := by rw [← HBS.out]; exact List.getElem?_eq_getElem hnl
        rcases hdig with ⟨h1, h2⟩ | ⟨h1, h2⟩
        · exact ⟨48, .inl rfl, by rw [e, h1], by rw [h2]; rfl⟩
        · exact ⟨49, .inr rfl, by rw [e, h1], by rw [h2]; rfl⟩
      obtain ⟨c, hc49, hbc, htell⟩ := hdig2
      have htl : tell s.data.toList p (n + 1) ≤ 4294967296 := by
        have h1 := tell_lt s.data.toList p (n + 1)
        have h2 : 2 ^ (n + 1) ≤ 2 ^ 32 := Nat.pow_le_pow_right (by omega) (by omega)
        omega
      rw [hask]
      clear hsh U hask hdig hnl
      obtain ⟨t, hte⟩ : ∃ t, tell s.data.toList p (n + 1) = t := ⟨_, rfl⟩
      rw [hte] at htell htl ⊢
      have C49 := Lib.hid hc49
      have BC := Lib.hid hbc
      have TE := Lib.hid htell
      have hbit : (48 + bits .and .i64 ((t : Nat) : Int) 1) % 256 = (c.toNat : Int) := by
        have h1 : bits .and .i64 ((t : Nat) : Int) 1 = (t : Int) % 2 := and_low (t : Int) 1 (by omega)
        rw [h1]
        omega
      have BT := Lib.hid hbit
      clear hc49 hbc htell hte hbit
      go_wp2_with fail
      rw [BT.out]
      refine (with_code l a cap n c w1 hc1 hl1 (by unfold maxLen; omega) hrow.out).mono ?_
      rintro e w2 ⟨a2, cap2, rfl, rfl, hc2, hl3, hl4, ha2⟩
      have hnx : (if c = 48 then l.takeWhile (nought rowC n) else l.dropWhile (nought rowC n)) = those rowC ds (bs.take (n + 1)) := by
        have hts : (bs.take n).length = n := by rw [List.length_take]; omega
        have hx := those_next rowC (l := ds) (q := bs.take n) SO.out (fun x hx => (okRow_inv (OK.out x hx)).2.2) (by rw [hts, ← hl.out]; exact fun x hx => (hrow.out x hx).1)
        rw [hts, ← hl.out] at hx
        have hsn : bs.take (n + 1) = bs.take n ++ [c] := by
          rw [List.take_add_one, BC.out]; rfl
        rw [hsn]
        rcases C49.out with e | e
        · rw [e, if_pos rfl]; exact hx.1
        · rw [e, if_neg (by decide)]; exact hx.2
      rw [hnx] at hc2 hl3 ⊢
      obtain ⟨l2, hl2e⟩ : ∃ l2, those rowC ds (bs.take (n + 1)) = l2 := ⟨_, rfl⟩
      rw [hl2e] at hc2 hl3 ⊢
      have HL2 := Lib.hid hl2e
      have HA2 : Hid (∀ x, a2 = some x → lo ≤ x.block ∧ x.block < N) := Lib.hid (fun x hx => by
        obtain ⟨y, hy, hb⟩ := ha2 x hx
        rw [← hb]
        exact ha.out y hy)
      unfold maxLen at hl4
      clear hnx hl2e ha2 hc1 hl1 hl2 ha hl hrow
      by_cases h0 : l2 = []
      · have F : Hid (tk (ds.map rowC) bs 25 1 = (3, 0)) := Lib.hid (by
          have hno : (ds.map rowC).any (fun r => (bs.take (n + 1)).isPrefixOf r) = false := by
            rw [List.any_eq_false]
            intro r hr hp
            obtain ⟨x, hx, rfl⟩ := List.mem_map.1 hr
            have : x ∈ those rowC ds (bs.take (n + 1)) := List.mem_filter.2 ⟨hx, hp⟩
            rw [HL2.out, h0] at this
            cases this
          rw [U2.out, if_neg, if_neg (by rw [hno]; decide)]
          intro hm
          rw [List.any_eq_false] at hno
          exact hno _ hm (pre_refl _))
        subst h0
        go_wp2
        go_ret2
        exact ttake_not (by rw [HBS.out]; exact F.out) (by decide) hr1 hg1
      · obtain ⟨y, l3, rfl⟩ : ∃ y l3, l2 = y :: l3 := by
          cases l2 with
          | nil => exact absurd rfl h0
          | cons y l3 => exact ⟨y, l3, rfl⟩
        obtain ⟨cb, o, rfl, hcb, hcells⟩ := hc2.at (by simp)
        have c0 := (hcells 0 (by simp)).1
        have c1 := (hcells 0 (by simp)).2
        simp only [List.getElem_cons_zero, Nat.zero_mul, Nat.add_zero] at c0 c1
        have hne : (((l3.length : Nat) : Int) + 1 == 0) = false := by rw [beq_eq_false_iff_ne]; omega
        have hyin : y ∈ those rowC ds (bs.take (n + 1)) := by rw [HL2.out]; exact List.mem_cons_self
        obtain ⟨hyd, hyp⟩ := List.mem_filter.1 hyin
        have hylen : n + 1 ≤ y.1.size ∧ y.1.size ≤ 24 := by
          have h1 := pre_length hyp
          rw [List.length_take] at h1
          have h2 := (okRow_inv (OK.out y hyd)).2.1
          have h3 : (rowC y).length = y.1.size := rfl
          have h4 : n + 1 ≤ bs.length := by rw [BL.out]; omega
          omega
        have YD := Lib.hid hyd
        have YP := Lib.hid hyp
        have HC := Lib.hid hcells
        have C2 := Lib.hid hc2
        clear hyin hyd hyp hcells hc2 h0
        obtain ⟨y0, y1⟩ := hylen
        by_cases hyn : y.1.size = n + 1
        · have g0 : ((y.1.size : Int) == (n : Int) + 1) = true := by rw [beq_iff_eq]; omega
          have F : Hid (tk (ds.map rowC) bs 25 1 = (0, n + 1) ∧ ∃ x ∈ ds, rowC x = bs.take (n + 1) ∧ x.2 = y.2) := Lib.hid (by
            have h1 : bs.take (n + 1) = rowC y := by
              have h2 := pre_take.1 YP.out
              have h3 : (rowC y).length = n + 1 := hyn
              rw [List.length_take, Nat.min_eq_left (by rw [BL.out]; omega), List.take_of_length_le (by omega)] at h2
              exact h2.symm
            refine ⟨?_, y, YD.out, h1.symm, rfl⟩
            rw [U2.out, if_pos (by rw [h1]; exact List.mem_map_of_mem YD.out)])
          have hcr : cb ≠ rb := by have := HA2.out _ rfl; simp at this; omega
          have hld : ∀ x, w1.grownBy x (some rb) → x.cell? ⟨cb, o + 1, none⟩ = some (.int .i64 y.2) := fun x hx => (World.cell?_of_block (a := ⟨cb, o + 1, none⟩) (hx.block cb hcb (by intro e; injection e with e; exact hcr e))).trans c1
          have LD := Lib.hid hld
          have hr1d : IsRd w1.drew rb s p := hr1
          have hps : p ≤ 1125899906842624 := by have := hr1.2; omega
          have hsd : p + (n + 1) ≤ 8 * s.size := hfit
          clear hyn hld
          go_wp2_with fail
          have sw : IntKind.i64.wrap ((p : Int) + ((n : Int) + 1)) = (p : Int) + ((n : Int) + 1) := IntWalk.i64_in _ (by omega)
          go_region_with (first | (go_at_call 14; refine (at_code _ _ _ _ (by assumption)).mono ?_; rintro e w3 ⟨rfl, rfl⟩) | (go_at_call 10; refine (seek_code _ _ _ _ _ (by assumption) (by omega) (by omega)).mono ?_; rintro e w3 ⟨rfl, hr3, hg3⟩; have c3 := LD.out w3 (grown_trans (grownBy_drew w1 _) hg3)))
          all_goals
            rw [show ((p : Int) + ((n : Int) + 1)).toNat = p + (n + 1) by omega] at hr3
            have hg4 := grown_trans hg1 (grown_trans (grownBy_drew w1 _) hg3)
            go_wp2
            go_ret2
            exact ttake_yes (by rw [HBS.out]; exact F.out.1) (by rw [HBS.out]; exact F.out.2) hr3 hg4
        · have g0 : ((y.1.size : Int) == (n : Int) + 1) = false := by rw [beq_eq_false_iff_ne]; omega
          have hnin : ∀ x, x ∈ those rowC ds (bs.take (n + 1)) → (rowC x).length ≠ n + 1 := by
            intro x hx hlen
            obtain ⟨hxd, hxp⟩ := List.mem_filter.1 hx
            have h2 := pre_take.1 hxp
            rw [List.length_take, Nat.min_eq_left (by rw [BL.out]; omega), List.take_of_length_le (by omega)] at h2
            have h3 := free_eq FR.out (x := rowC x) (y := rowC y) (List.mem_map_of_mem hxd) (List.mem_map_of_mem YD.out) (by rw [h2]; exact YP.out)
            have h4 : (rowC y).length = y.1.size := rfl
            rw [h3] at hlen
            omega
          have F : Hid (tk (ds.map rowC) bs 25 1 = tk (ds.map rowC) bs (25 - (n + 1)) (n + 1 + 1)) := Lib.hid (by
            rw [U2.out, if_neg, if_pos (List.any_eq_true.2 ⟨rowC y, List.mem_map_of_mem YD.out, YP.out⟩), show 25 - (n + 1) = 24 - n by omega]
            intro hm
            have h3 := free_eq FR.out hm (List.mem_map_of_mem YD.out) YP.out
            have h4 := congrArg List.length h3
            rw [List.length_take, Nat.min_eq_left (by rw [BL.out]; omega)] at h4
            exact hyn h4.symm)
          have RW : Hid (∀ x ∈ y :: l3, n + 1 < x.1.size ∧ x.1.size ≤ 24) := Lib.hid (fun x hx => by
            rw [← HL2.out] at hx
            obtain ⟨hxd, hxp⟩ := List.mem_filter.1 hx
            have h1 := pre_length hxp
            rw [List.length_take, Nat.min_eq_left (by rw [BL.out]; omega)] at h1
            have h2 := (okRow_inv (OK.out x hxd)).2.1
            have h3 : (rowC x).length = x.1.size := rfl
            have h4 := hnin x hx
            omega)
          have hbn : n + 1 ≤ bs.length := by rw [BL.out]; omega
          clear hnin c1
          go_wp2
          go_roundw
          case rel => exact ⟨n + 1, _, y :: l3, cap2, by go_num, rfl, hl3, by unfold maxLen; omega, Lib.hid HL2.out.symm, C2.out, HA2, by omega, hbn, F, RW, hb2, hr1⟩
          case measure => simp [intOf]; omega
theorem ttake_code (w : World) (N tb rb : Nat) (ds : List (ByteArray × Int)) (L : Int) (s : ByteArray) (p : Nat) (ht : IsTb w N tb ds L) (hr : IsRd w rb s p) (hN : N ≤ rb)
    (hs : ds.Pairwise fun x y => leL (rowC x) (rowC y) = true) (hf : free (ds.map rowC)) (ho : ∀ x ∈ ds, okRow (rowC x) = true) :
    Calls Tryd.prog 22 #[.pointer (some ⟨tb, 0, none⟩), .pointer (some ⟨rb, 0, none⟩)] w (TTake ds s rb p w) :=
  ttake_low w 0 N tb rb ds L s p ht.low hr (.inr hN) hs hf ho
end Go.Proofs.YtfechonaghjcnaaDoor
