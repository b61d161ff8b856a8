/- What package tcoef takes from a Reader, or what is wrong. Conditions: a Reader of a text of at most 2^47 bytes; the variables hold their tables. -/
import Derived.Test.YtologhgoojkpmaaDoorEcode
import Derived.Test.YtologhgoojkpmaaDoorRes
import Derived.RegionTactic
import Derived.Deep.RegionWith
import Derived.StillTailTactics
namespace Go.Proofs.YtologhgoojkpmaaDoor
open Go.RowKit Go.Lib

theorem rd_set {x : World} {rb p : Nat} {s : ByteArray} {a : Addr} {v : Value} (h : IsRd x rb s p) (hne : rb ≠ a.block) : IsRd (x.setCell a v) rb s p := h.grown (grownBy_setCell x a v) hne

/-- What the search gives. -/
def BegGivesT (v n : Nat) (w : World) (e : Ending) (w' : World) : Prop :=
  ((∃ i : Nat, i < 103 ∧ begT v n i = true ∧ e = .returned (.tuple #[.int .i64 (i : Int), .bool true])) ∨ ((∀ i, i < 103 → begT v n i = false) ∧ e = .returned (.tuple #[.int .i64 0, .bool false]))) ∧ Below w.heap.size w w'
set_option maxRecDepth 100000 in
set_option maxHeartbeats 4000000 in
theorem begT_code (v n : Nat) (hn : n ≤ 12) (w : World) (hp : HasT w) : Calls Tryd.prog 75 #[.int .i64 (v : Int), .int .i64 (n : Int)] w (BegGivesT v n w) := by
  have HP := Lib.hid (fun (x : World) (hx : Below w.heap.size w x) => (hp.below hx : HasT x))
  have hb0 : Below w.heap.size w w := Below.refl _ _
  clear hp
  go_enter Tryd.func75, Tryd.ntmps75
  go_wp2
  go_loopw [9] (fun u wr => ∃ i : Nat, i ≤ 103 ∧ u = .int .i64 i ∧ Below w.heap.size w wr ∧ Hid (∀ j, j < i → begT v n j = false)) (fun u _ => 103 - (intOf u).toNat)
  case atStart => exact ⟨0, by omega, rfl, hb0, Lib.hid (fun j h => absurd h (Nat.not_lt_zero j))⟩
  case round =>
    clear hb0
    obtain ⟨i, hi, rfl, hb, hno⟩ := hrel
    by_cases hlt : i < 103
    · have hc := coded_code i hlt wr (HP.out _ hb)
      obtain ⟨b0, b1, b2, b3⟩ := code_fits i hlt
      clear b2
      have hbeg : begT v n i = (codeT i / 2 ^ (lenT i - n) == v / 2 ^ (n - lenT i)) := rfl
      have hmore : ∀ r, begT v n i = r → r = false → ∀ j, j < i + 1 → begT v n j = false := by
        intro r h1 h2 j hj
        by_cases e : j = i
        · subst e; rw [h1, h2]
        · exact hno.out j (by omega)
      have MORE := Lib.hid hmore
      generalize codeT i = x at hc b3 hbeg
      generalize lenT i = y at hc b0 b1 hbeg
      have t9 : decide ((i : Int) < 103) = true := by simp; omega
      have hz := hb.size
      clear hno hmore
      rcases Nat.lt_trichotomy n y with hyn | hyn | hyn
      · obtain ⟨k, rfl⟩ : ∃ k, y = n + k := ⟨y - n, by omega⟩
        have hk : 0 < k := by omega
        rw [Nat.add_sub_cancel_left, show n - (n + k) = 0 by omega, Nat.pow_zero, Nat.div_one] at hbeg
        have sw1 : IntKind.i64.wrap ((n : Int) + k - n) = (k : Int) := (IntWalk.i64_in _ (by omega)).trans (by omega)
        have sw2 : IntKind.i64.wrap ((n : Int) - ((n : Int) + k)) = -(k : Int) := (IntWalk.i64_in _ (by omega)).trans (by omega)
        have hcast : ((x : Int) / 2 ^ k == (v : Int)) = (x / 2 ^ k == v) := by
          rw [Bool.eq_iff_iff, beq_iff_eq, beq_iff_eq, ← Int.natCast_inj]
          simp
        cases hg : ((x : Int) / 2 ^ k == (v : Int)) with
        | true =>
          have HB := Lib.hid (hbeg.trans (hcast.symm.trans hg))
          clear hbeg hcast
          go_wp2_with fail
          refine hc.mono ?_
          rintro e w1 ⟨rfl, hb1⟩
          have hb2 := (hb.trans (hb1.mono hz)).drew
          go_wp2
          go_region
          go_wp2
          go_ret2
          exact ⟨.inl ⟨i, hlt, HB.out, rfl⟩, hb2⟩
        | false =>
          have HB := Lib.hid (hbeg.trans (hcast.symm.trans hg))
          clear hbeg hcast
          go_wp2_with fail
          refine hc.mono ?_
          rintro e w1 ⟨rfl, hb1⟩
          have hb2 := (hb.trans (hb1.mono hz)).drew
          go_wp2
          go_region
          go_wp2
          go_roundw
          case rel => exact ⟨i + 1, by omega, by go_num, hb2, Lib.hid (MORE.out _ HB.out rfl)⟩
          case measure => simp [intOf]; omega
      · subst hyn
        rw [Nat.sub_self, Nat.pow_zero, Nat.div_one, Nat.div_one] at hbeg
        have sw1 : IntKind.i64.wrap ((n : Int) - n) = 0 := (IntWalk.i64_in _ (by omega)).trans (by omega)
        have hcast : ((x : Int) == (v : Int)) = (x == v) := by
          rw [Bool.eq_iff_iff, beq_iff_eq, beq_iff_eq, ← Int.natCast_inj]
        cases hg : ((x : Int) == (v : Int)) with
        | true =>
          have HB := Lib.hid (hbeg.trans (hcast.symm.trans hg))
          clear hbeg hcast
          go_wp2_with fail
          refine hc.mono ?_
          rintro e w1 ⟨rfl, hb1⟩
          have hb2 := (hb.trans (hb1.mono hz)).drew
          go_wp2
          go_region
          go_wp2
          go_ret2
          exact ⟨.inl ⟨i, hlt, HB.out, rfl⟩, hb2⟩
        | false =>
          have HB := Lib.hid (hbeg.trans (hcast.symm.trans hg))
          clear hbeg hcast
          go_wp2_with fail
          refine hc.mono ?_
          rintro e w1 ⟨rfl, hb1⟩
          have hb2 := (hb.trans (hb1.mono hz)).drew
          go_wp2
          go_region
          go_wp2
          go_roundw
          case rel => exact ⟨i + 1, by omega, by go_num, hb2, Lib.hid (MORE.out _ HB.out rfl)⟩
          case measure => simp [intOf]; omega
      · obtain ⟨k, hk2⟩ : ∃ k, n - y = k := ⟨_, rfl⟩
        have hk : 0 < k := by omega
        rw [hk2, show y - n = 0 by omega, Nat.pow_zero, Nat.div_one] at hbeg
        have sw1 : IntKind.i64.wrap ((n : Int) - y) = (k : Int) := (IntWalk.i64_in _ (by omega)).trans (by omega)
        have sw2 : IntKind.i64.wrap ((y : Int) - n) = -(k : Int) := (IntWalk.i64_in _ (by omega)).trans (by omega)
        have hk12 : k ≤ 12 := by omega
        clear hk2
        have hcast : ((x : Int) == (v : Int) / 2 ^ k) = (x == v / 2 ^ k) := by
          rw [Bool.eq_iff_iff, beq_iff_eq, beq_iff_eq, ← Int.natCast_inj]
          simp
        cases hg : ((x : Int) == (v : Int) / 2 ^ k) with
        | true =>
          have HB := Lib.hid (hbeg.trans (hcast.symm.trans hg))
          clear hbeg hcast
          go_wp2_with fail
          refine hc.mono ?_
          rintro e w1 ⟨rfl, hb1⟩
          have hb2 := (hb.trans (hb1.mono hz)).drew
          go_wp2
          go_region
          go_wp2
          go_ret2
          exact ⟨.inl ⟨i, hlt, HB.out, rfl⟩, hb2⟩
        | false =>
          have HB := Lib.hid (hbeg.trans (hcast.symm.trans hg))
          clear hbeg hcast
          go_wp2_with fail
          refine hc.mono ?_
          rintro e w1 ⟨rfl, hb1⟩
          have hb2 := (hb.trans (hb1.mono hz)).drew
          go_wp2
          go_region
          go_wp2
          go_roundw
          case rel => exact ⟨i + 1, by omega, by go_num, hb2, Lib.hid (MORE.out _ HB.out rfl)⟩
          case measure => simp [intOf]; omega
    · obtain rfl : i = 103 := by omega
      go_wp2
      go_ret2
      exact ⟨.inr ⟨hno.out, rfl⟩, hb⟩

/-! ### The place -/
/-- What the place gives. -/
def NextT (bs : List UInt8) (w : World) (e : Ending) (w' : World) : Prop :=
  ((∃ i : Nat, i < 103 ∧ gtk allT bs = ((i : Int), 0, lenT i) ∧ lenT i ≤ bs.length ∧ e = .returned (.tuple #[.int .i64 (i : Int), .int .i64 0])) ∨
    (∃ f : Int, f ≠ 0 ∧ gtk allT bs = (0, f, 0) ∧ e = .returned (.tuple #[.int .i64 0, .int .i64 f]))) ∧ Below w.heap.size w w'
set_option maxHeartbeats 1000000 in
theorem next_code (w : World) (rb : Nat) (s : ByteArray) (p : Nat) (hp : HasT w) (hr : IsRd w rb s p) :
    Calls Tryd.prog 67 #[.pointer (some ⟨rb, 0, none⟩)] w (NextT ((showL s.data.toList).drop p) w) := by
  obtain ⟨bs, hbs⟩ : ∃ bs, (showL s.data.toList).drop p = bs := ⟨_, rfl⟩
  have hsl : s.data.toList.length = s.size := rfl
  have hpl := hr.2.1
  have hbl : bs.length = 8 * s.size - p := by rw [← hbs, List.length_drop, showL_length]; rfl
  have hrow : isRow bs = true := by rw [← hbs]; exact isRow_drop _ _ (showL_row _)
  obtain ⟨n, hn⟩ : ∃ n, n = min 12 bs.length := ⟨_, rfl⟩
  have htell : tell s.data.toList p n = num (bs.take n) := by unfold tell; rw [hbs]
  obtain ⟨v, hv⟩ : ∃ v, num (bs.take n) = v := ⟨_, rfl⟩
  have hask : ask s.data.toList p (n : Int) = ((v : Int), 0) := by
    rw [ask_ok (n := (n : Int)) (by omega) (by rw [hsl]; omega), Int.toNat_natCast, htell, hv]
  have hv32 : v < 4294967296 := by
    have h1 := num_lt bs hrow n (by omega)
    have h2 : 2 ^ n ≤ 2 ^ 12 := Nat.pow_le_pow_right (by decide) (by omega)
    rw [hv] at h1
    omega
  have hn12 : n ≤ 12 := by omega
  obtain ⟨ni, hni⟩ : ∃ ni : Int, (n : Int) = ni := ⟨_, rfl⟩
  have hmin : min 12 (8 * (s.size : Int) - p) = ni := by omega
  have hbg := fun x hx => begT_code v n hn12 x hx
  rw [hni] at hask hbg
  have A := Lib.hid hask
  have ROW := Lib.hid hrow
  have HN := Lib.hid hn
  have HV := Lib.hid hv
  have NI := Lib.hid hni
  have hco := fun i hi x hx => coded_code i hi x hx
  have HP := Lib.hid (fun (x : World) (hx : Below w.heap.size w x) => (hp.below hx : HasT x))
  have MN := Lib.hid hmin
  rw [hbs]
  clear hask hmin hrow hn hv hbs htell hbl hp hni
  go_enter Tryd.func67, Tryd.ntmps67
  go_wp2_with fail
  refine (left_code _ _ _ _ hr).mono ?_
  rintro e w1 ⟨rfl, hb1⟩
  have hr1 := hr.below hb1
  have hz1 := hb1.size
  clear hr
  go_wp2_with fail
  · obtain rfl : ni = 8 * (s.size : Int) - p := by have := MN.out; omega
    refine (peek_code _ _ _ _ _ hr1).mono ?_
    rintro e w2 ⟨rfl, hb2⟩
    rw [A.out]
    have hb3 := hb1.trans (hb2.mono hz1)
    have hz3 := hb3.size
    have hp3 := HP.out _ hb3
    clear hb1 hb2 hz1 hr1
    go_wp2_with fail
    refine (hbg _ hp3).mono ?_
    rintro e w3 ⟨⟨i, hi, hbeg, rfl⟩ | ⟨hno, rfl⟩, hb4⟩
    · have hb5 := hb3.trans (hb4.mono hz3)
      have hz5 := hb5.size
      have hp5 := HP.out _ hb5
      rw [← HV.out] at hbeg
      clear hb3 hb4 hz3 hp3
      by_cases hl : lenT i ≤ n
      · obtain ⟨f1, f2⟩ := gtk_found HN.out hi hbeg ROW.out hl
        have F1 := Lib.hid f1
        have F2 := Lib.hid f2
        have hc := hco i hi _ hp5
        have HI := Lib.hid hi
        have hle : (lenT i : Int) ≤ (n : Int) := by omega
        rw [NI.out] at hle
        clear f1 f2 hbeg hl hi
        obtain ⟨y, hy⟩ : ∃ y, lenT i = y := ⟨_, rfl⟩
        rw [hy] at hc hle F1 F2
        have HY := Lib.hid hy
        clear hy
        go_wp2_with fail
        refine hc.mono ?_
        rintro e w4 ⟨rfl, hb6⟩
        go_wp2
        go_ret2
        exact ⟨.inl ⟨i, HI.out, by rw [HY.out]; exact F1.out, by rw [HY.out]; exact F2.out, rfl⟩, hb5.trans (hb6.mono hz5)⟩
      · have F1 := Lib.hid (gtk_short HN.out hi hbeg ROW.out (by omega))
        have hc := hco i hi _ hp5
        have hle : (n : Int) < (lenT i : Int) := by omega
        rw [NI.out] at hle
        generalize lenT i = y at hc hle
        clear hbeg hl hi
        go_wp2_with fail
        refine hc.mono ?_
        rintro e w4 ⟨rfl, hb6⟩
        go_wp2
        go_ret2
        exact ⟨.inr ⟨2, by decide, F1.out, rfl⟩, hb5.trans (hb6.mono hz5)⟩
    · have F1 := Lib.hid (gtk_never HN.out (fun i hi => by rw [HV.out]; exact hno i hi) ROW.out)
      go_wp2
      go_ret2
      exact ⟨.inr ⟨3, by decide, F1.out, rfl⟩, hb3.trans (hb4.mono hz3)⟩
  · obtain rfl : ni = 12 := by have := MN.out; omega
    refine (peek_code _ _ _ _ _ hr1).mono ?_
    rintro e w2 ⟨rfl, hb2⟩
    rw [A.out]
    have hb3 := hb1.trans (hb2.mono hz1)
    have hz3 := hb3.size
    have hp3 := HP.out _ hb3
    clear hb1 hb2 hz1 hr1
    go_wp2_with fail
    refine (hbg _ hp3).mono ?_
    rintro e w3 ⟨⟨i, hi, hbeg, rfl⟩ | ⟨hno, rfl⟩, hb4⟩
    · have hb5 := hb3.trans (hb4.mono hz3)
      have hz5 := hb5.size
      have hp5 := HP.out _ hb5
      rw [← HV.out] at hbeg
      clear hb3 hb4 hz3 hp3
      by_cases hl : lenT i ≤ n
      · obtain ⟨f1, f2⟩ := gtk_found HN.out hi hbeg ROW.out hl
        have F1 := Lib.hid f1
        have F2 := Lib.hid f2
        have hc := hco i hi _ hp5
        have HI := Lib.hid hi
        have hle : (lenT i : Int) ≤ (n : Int) := by omega
        rw [NI.out] at hle
        clear f1 f2 hbeg hl hi
        obtain ⟨y, hy⟩ : ∃ y, lenT i = y := ⟨_, rfl⟩
        rw [hy] at hc hle F1 F2
        have HY := Lib.hid hy
        clear hy
        go_wp2_with fail
        refine hc.mono ?_
        rintro e w4 ⟨rfl, hb6⟩
        go_wp2
        go_ret2
        exact ⟨.inl ⟨i, HI.out, by rw [HY.out]; exact F1.out, by rw [HY.out]; exact F2.out, rfl⟩, hb5.trans (hb6.mono hz5)⟩
      · have F1 := Lib.hid (gtk_short HN.out hi hbeg ROW.out (by omega))
        have hc := hco i hi _ hp5
        have hle : (n : Int) < (lenT i : Int) := by omega
        rw [NI.out] at hle
        generalize lenT i = y at hc hle
        clear hbeg hl hi
        go_wp2_with fail
        refine hc.mono ?_
        rintro e w4 ⟨rfl, hb6⟩
        go_wp2
        go_ret2
        exact ⟨.inr ⟨2, by decide, F1.out, rfl⟩, hb5.trans (hb6.mono hz5)⟩
    · have F1 := Lib.hid (gtk_never HN.out (fun i hi => by rw [HV.out]; exact hno i hi) ROW.out)
      go_wp2
      go_ret2
      exact ⟨.inr ⟨3, by decide, F1.out, rfl⟩, hb3.trans (hb4.mono hz3)⟩
theorem next_nil (w : World) : Calls Tryd.prog 67 #[.pointer none] w fun e w' => e = .returned (.tuple #[.int .i64 0, .int .i64 1]) ∧ w = w' := by
  go_enter Tryd.func67, Tryd.ntmps67
  go_wp2_with fail
  refine (left_nil _).mono ?_
  rintro e w1 ⟨rfl, rfl⟩
  go_wp2_with fail
  refine (peek_nil _ _).mono ?_
  rintro e w1 ⟨rfl, rfl⟩
  go_wp2
  go_ret2
  exact ⟨rfl, rfl⟩

/-! ### What is taken -/
/-- What Take gives. -/
def ETake (s : ByteArray) (rb p : Nat) (w : World) (e : Ending) (w' : World) : Prop :=
  e = .returned (.tuple #[evVal (etk ((showL s.data.toList).drop p)).1, .int .i64 (etk ((showL s.data.toList).drop p)).2.1]) ∧
    IsRd w' rb s (p + (etk ((showL s.data.toList).drop p)).2.2) ∧ w.grownBy w' (some rb)
theorem etake_at {s : ByteArray} {rb p n : Nat} {w w' : World} {l : Bool} {r : Nat} {v f : Int} (h : etk ((showL s.data.toList).drop p) = ((l, r, v), f, n)) (hr : IsRd w' rb s (p + n)) (hg : w.grownBy w' (some rb)) :
    ETake s rb p w (.returned (.tuple #[.agg #[.bool l, .int .i64 (r : Int), .int .i64 v], .int .i64 f])) w' := by
  unfold ETake
  rw [h]
  exact ⟨rfl, hr, hg⟩
theorem etake_none {s : ByteArray} {rb p : Nat} {w w' : World} {f : Int} (h : etk ((showL s.data.toList).drop p) = ((false, 0, 0), f, 0)) (hr : IsRd w' rb s p) (hg : w.grownBy w' (some rb)) :
    ETake s rb p w (.returned (.tuple #[.agg #[.bool false, .int .i64 0, .int .i64 0], .int .i64 f])) w' := etake_at (r := 0) (n := 0) h hr hg
set_option maxHeartbeats 1000000 in
theorem eget_nil (w : World) : Calls Tryd.prog 54 #[.pointer none] w fun e w' => e = .returned (.tuple #[evVal (false, 0, 0), .int .i64 1]) ∧ Below w.heap.size w w' := by
  have hb1 : Below w.heap.size w (w.alloc (.cells #[.bool false, .int .i64 0, .int .i64 0] 50 (0, 0))) := (Below.refl _ w).alloc (Nat.le_refl _) _
  have hh : (w.alloc (.cells #[.bool false, .int .i64 0, .int .i64 0] 50 (0, 0))).heap[w.heap.size]? = some (evObj false 0 0) := heap_alloc_new w _
  obtain ⟨c0, c1, c2, f0, f1, f2⟩ := ev_cells hh
  go_enter Tryd.func54, Tryd.ntmps54
  go_wp2_with fail
  refine (next_nil _).mono ?_
  rintro e w1 ⟨rfl, rfl⟩
  go_wp2
  exact bodyPost_ret (results_pair rfl _ _ w.heap.size 50 _ (0, 0) _ rfl hh Tryd.underlying50 rfl (by kernel_rfl)) rfl ⟨rfl, hb1⟩
set_option maxHeartbeats 2000000 in
theorem eget_code (w : World) (rb : Nat) (s : ByteArray) (p : Nat) (hp : HasT w) (hr : IsRd w rb s p) :
    Calls Tryd.prog 54 #[.pointer (some ⟨rb, 0, none⟩)] w (ETake s rb p w) := by
  obtain ⟨bs, hbs⟩ : ∃ bs, (showL s.data.toList).drop p = bs := ⟨_, rfl⟩
  have hsl : s.data.toList.length = s.size := rfl
  have hpl := hr.2.1
  have hs47 := hr.2.2
  have hbl : bs.length = 8 * s.size - p := by rw [← hbs, List.length_drop, showL_length]; rfl
  have htell : ∀ n, tell s.data.toList p n = num (bs.take n) := fun n => by unfold tell; rw [hbs]
  have hrlt := hr.lt
  obtain ⟨B, hB⟩ : ∃ B, w.heap.size = B := ⟨_, rfl⟩
  have hrB : rb ≠ B := by omega
  obtain ⟨w1, hw1⟩ : ∃ w1, w.alloc (.cells #[.bool false, .int .i64 0, .int .i64 0] 50 (0, 0)) = w1 := ⟨_, rfl⟩
  have hb1 : Below B w w1 := by rw [← hw1, ← hB]; exact (Below.refl _ w).alloc (Nat.le_refl _) _
  have hz1 : w1.heap.size = B + 1 := by rw [← hw1, ← hB]; simp
  have hh1 : w1.heap[B]? = some (evObj false 0 0) := by rw [← hw1, ← hB]; exact heap_alloc_new w _
  have hr1 : IsRd w1 rb s p := hr.below (by rw [hB]; exact hb1)
  have hp1 : HasT w1 := hp.below (by rw [hB]; exact hb1)
  have hne := next_code w1 rb s p hp1 hr1
  rw [hbs] at hne
  have HH := Lib.hid (fun (x : World) (hx : Below (B + 1) w1 x) => ((hx.block B (by omega)).trans hh1 : x.heap[B]? = some (evObj false 0 0)))
  have HR := Lib.hid (fun (x : World) (hx : Below (B + 1) w1 x) => (hr1.below (by rw [hz1]; exact hx) : IsRd x rb s p))
  have HP := Lib.hid (fun (x : World) (hx : Below (B + 1) w1 x) => (hp1.below (by rw [hz1]; exact hx) : HasT x))
  have HG := Lib.hid (fun (x : World) (hx : Below (B + 1) w1 x) => (by
    have h := hb1.trans (hx.mono (by omega))
    rw [← hB] at h
    exact ⟨h.os, h.tape, h.output, h.size, fun k hk _ => h.block k hk⟩ : w.grownBy x (some rb)))
  have HB := Lib.hid hB
  have HBS := Lib.hid hbs
  have BL := Lib.hid hbl
  have TE := Lib.hid htell
  have HW1 := Lib.hid hw1
  have hbB : w.heap.size ≤ B := by omega
  clear hB hw1 hb1 hh1 hr1 hp1 hp hr hbs hbl htell hrlt
  go_enter Tryd.func54, Tryd.ntmps54
  go_wp2_with fail
  rw [HW1.out, HB.out]
  refine hne.mono ?_
  rintro e w2 ⟨⟨i, hi, hg, hlb, rfl⟩ | ⟨f, hf, hg, rfl⟩, hb2⟩
  all_goals rw [hz1] at hb2
  · obtain ⟨n, hn⟩ : ∃ n, (if i = 102 then 22 else lenT i + 1 : Nat) = n := ⟨_, rfl⟩
    have hdi := digits_place i hi w2 (HP.out _ hb2)
    rw [hn] at hdi
    have hz2 := hb2.size
    rw [hz1] at hz2
    have hn22 : n ≤ 22 := by
      rw [← hn]
      have := (code_fits i hi).2.1
      split <;> omega
    have hn1 : 1 ≤ n := by rw [← hn]; split <;> omega
    have HN := Lib.hid hn
    have HG2 := Lib.hid hg
    have HI := Lib.hid hi
    by_cases hsh : bs.length < n
    · have F := Lib.hid (etk_few hg (by rw [hn]; exact hsh))
      have A := Lib.hid (show ask s.data.toList p (n : Int) = (0, 2) from ask_short (by omega) (by rw [hsl]; have := BL.out; omega))
      clear hsh hn hg hlb
      go_wp2_with fail
      refine hdi.mono ?_
      rintro e w3 ⟨rfl, hb3⟩
      have hb4 := hb2.trans (hb3.mono hz2)
      have hr4 := HR.out _ hb4
      have hz4 := Nat.le_trans hz2 hb3.size
      clear hb2 hb3 hz2
      go_wp2_with fail
      refine (peek_code _ _ _ _ _ hr4).mono ?_
      rintro e w4 ⟨rfl, hb5⟩
      rw [A.out]
      have hb6 := hb4.trans (hb5.mono hz4)
      have hh6 := HH.out _ hb6
      obtain ⟨c0, c1, c2, f0, f1, f2⟩ := ev_cells hh6
      go_wp2
      refine bodyPost_ret (results_pair rfl _ _ B 50 _ (0, 0) _ rfl (ev_zero hh6 false 0 0) Tryd.underlying50 rfl (by kernel_rfl)) rfl ?_
      exact etake_none (f := 2) (by rw [HBS.out]; exact F.out) (rd_set (rd_set (rd_set (HR.out _ hb6) hrB) hrB) hrB) (grown_set (grown_set (grown_set (HG.out _ hb6) hbB) hbB) hbB)
    · have hle : n ≤ bs.length := by omega
      obtain ⟨v, hv⟩ : ∃ v, num (bs.take n) = v := ⟨_, rfl⟩
      have A := Lib.hid (show ask s.data.toList p (n : Int) = ((v : Int), 0) by rw [ask_ok (n := (n : Int)) (by omega) (by rw [hsl]; have := BL.out; omega), Int.toNat_natCast, TE.out, hv])
      by_cases h102 : i = 102
      · subst h102
        have hn2 : n = 22 := by rw [← hn, if_pos rfl]
        subst hn2
        have A : Hid (ask s.data.toList p (22 : Int) = ((v : Int), 0)) := Lib.hid A.out
        have F0 := etk_escape hg hle
        rw [hv] at F0
        have hes := fun x => escaped_code v x
        obtain ⟨q0, q1, q2⟩ := escT_range v
        obtain ⟨⟨l, r, y⟩, he⟩ : ∃ x, escT v = x := ⟨_, rfl⟩
        rw [he] at F0 hes q0 q1 q2
        have hpl2 := fun x hx => placed_code l r y q0 ⟨q1, q2⟩ x hx
        have hri := fun x => right_code l (r : Int) y x
        have ES : Hid (∀ x, Calls Tryd.prog 69 #[.int .i64 (v : Int)] x fun e w' => e = .returned (.agg #[.bool l, .int .i64 (r : Int), .int .i64 y]) ∧ Below x.heap.size x w') := Lib.hid hes
        have hpn : (p : Int) + 22 ≤ 8 * (s.size : Int) := by have := BL.out; omega
        have hps : p ≤ 1125899906842624 := by omega
        simp only at F0
        cases hin : inT l r y.natAbs with
        | true =>
          rw [hin] at F0 hpl2
          rw [if_pos rfl] at hpl2
          rw [Bool.not_true, Bool.and_false, if_neg (by decide)] at F0
          have F := Lib.hid F0
          generalize plT l r y.natAbs = z at hpl2
          clear hsh hn hg hlb F0 hes he hv hle hri hin
          go_wp2_with fail
          refine hdi.mono ?_
          rintro e w3 ⟨rfl, hb3⟩
          have hb4 := hb2.trans (hb3.mono hz2)
          have hr4 := HR.out _ hb4
          have hz4 := Nat.le_trans hz2 hb3.size
          clear hb2 hb3 hz2 hdi
          go_wp2_with fail
          refine (peek_code _ _ _ _ _ hr4).mono ?_
          rintro e w4 ⟨rfl, hb5⟩
          rw [A.out]
          have hb6 := hb4.trans (hb5.mono hz4)
          have hz6 := Nat.le_trans hz4 hb5.size
          clear hb4 hb5 hr4 hz4
          go_wp2_with fail
          refine (ES.out _).mono ?_
          rintro e w5 ⟨rfl, hb7⟩
          have hb8 := hb6.trans (hb7.mono hz6)
          have hz8 := Nat.le_trans hz6 hb7.size
          go_wp2_with fail
          have hb9 := hb8.alloc hz8 (.cells #[.bool l, .int .i64 (r : Int), .int .i64 y] 50 (0, 0))
          have he9 : (w5.alloc (.cells #[.bool l, .int .i64 (r : Int), .int .i64 y] 50 (0, 0))).heap[w5.heap.size]? = some (evObj l r y) := heap_alloc_new w5 _
          have hz9 : (w5.alloc (.cells #[.bool l, .int .i64 (r : Int), .int .i64 y] 50 (0, 0))).heap.size = w5.heap.size + 1 := by simp
          obtain ⟨C, hC⟩ : ∃ C, w5.heap.size = C := ⟨_, rfl⟩
          rw [hC] at he9 hz9 hz8
          rw [hC]
          generalize w5.alloc (.cells #[.bool l, .int .i64 (r : Int), .int .i64 y] 50 (0, 0)) = w6 at hb9 he9 hz9 ⊢
          clear hb6 hb7 hb8 hz6 hC
          have hz10 : B + 1 ≤ w6.heap.size := by omega
          have hCr : rb ≠ C := by have := (HR.out _ hb9).lt; have := (HR.out _ (Below.refl _ w1)).lt; omega
          refine (hpl2 _ (HP.out _ hb9)).mono ?_
          rintro e w7 ⟨rfl, hb10⟩
          have he10 := (hb10.block C (by omega)).trans he9
          have hb11 := hb9.trans (hb10.mono hz10)
          have hz11 := Nat.le_trans hz10 hb10.size
          have hC7 : C < w7.heap.size := (Array.getElem?_eq_some_iff.1 he10).1
          clear hb9 hb10 he9 hz10 hz9 hpl2
          have hh12 := HH.out _ hb11
          obtain ⟨c0, c1, c2, f0, f1, f2⟩ := ev_cells hh12
          go_wp2
          refine bodyPost_ret (results_pair rfl _ _ B 50 _ (0, 0) _ rfl (ev_zero hh12 false 0 0) Tryd.underlying50 rfl (by kernel_rfl)) rfl ?_
          exact etake_none (f := 7) (by rw [HBS.out]; exact F.out) (rd_set (rd_set (rd_set (HR.out _ hb11) hrB) hrB) hrB) (grown_set (grown_set (grown_set (HG.out _ hb11) hbB) hbB) hbB)
        | false =>
          rw [hin] at F0 hpl2
          rw [if_neg (by decide)] at hpl2
          rw [Bool.not_false, Bool.and_true] at F0
          have F1 := Lib.hid F0
          clear hsh hn hg hlb F0 hes he hv hle hin
          go_wp2_with fail
          refine hdi.mono ?_
          rintro e w3 ⟨rfl, hb3⟩
          have hb4 := hb2.trans (hb3.mono hz2)
          have hr4 := HR.out _ hb4
          have hz4 := Nat.le_trans hz2 hb3.size
          clear hb2 hb3 hz2 hdi
          go_wp2_with fail
          refine (peek_code _ _ _ _ _ hr4).mono ?_
          rintro e w4 ⟨rfl, hb5⟩
          rw [A.out]
          have hb6 := hb4.trans (hb5.mono hz4)
          have hz6 := Nat.le_trans hz4 hb5.size
          clear hb4 hb5 hr4 hz4
          go_wp2_with fail
          refine (ES.out _).mono ?_
          rintro e w5 ⟨rfl, hb7⟩
          have hb8 := hb6.trans (hb7.mono hz6)
          have hz8 := Nat.le_trans hz6 hb7.size
          go_wp2_with fail
          have hb9 := hb8.alloc hz8 (.cells #[.bool l, .int .i64 (r : Int), .int .i64 y] 50 (0, 0))
          have he9 : (w5.alloc (.cells #[.bool l, .int .i64 (r : Int), .int .i64 y] 50 (0, 0))).heap[w5.heap.size]? = some (evObj l r y) := heap_alloc_new w5 _
          have hz9 : (w5.alloc (.cells #[.bool l, .int .i64 (r : Int), .int .i64 y] 50 (0, 0))).heap.size = w5.heap.size + 1 := by simp
          obtain ⟨C, hC⟩ : ∃ C, w5.heap.size = C := ⟨_, rfl⟩
          rw [hC] at he9 hz9 hz8
          rw [hC]
          generalize w5.alloc (.cells #[.bool l, .int .i64 (r : Int), .int .i64 y] 50 (0, 0)) = w6 at hb9 he9 hz9 ⊢
          clear hb6 hb7 hb8 hz6 hC
          have hz10 : B + 1 ≤ w6.heap.size := by omega
          have hCr : rb ≠ C := by have := (HR.out _ hb9).lt; have := (HR.out _ (Below.refl _ w1)).lt; omega
          refine (hpl2 _ (HP.out _ hb9)).mono ?_
          rintro e w7 ⟨rfl, hb10⟩
          have he10 := (hb10.block C (by omega)).trans he9
          have hb11 := hb9.trans (hb10.mono hz10)
          have hz11 := Nat.le_trans hz10 hb10.size
          have hC7 : C < w7.heap.size := (Array.getElem?_eq_some_iff.1 he10).1
          clear hb9 hb10 he9 hz10 hz9 hpl2
          obtain ⟨d0, d1, d2, k0, k1, k2⟩ := ev_cells he10
          go_wp2_with fail
          refine (hri _).mono ?_
          rintro e w8 ⟨rfl, hb12⟩
          have he12 := (hb12.block C hC7).trans he10
          have hb13 := hb11.trans (hb12.mono hz11)
          have hh13 := HH.out _ hb13
          have hr13 := HR.out _ hb13
          have hg13 := HG.out _ hb13
          clear d0 d1 d2 k0 k1 k2 hb11 hb12 hz11 he10 hri
          obtain ⟨c0, c1, c2, f0, f1, f2⟩ := ev_cells hh13
          cases hrt : rightT (r : Int) y with
          | false =>
            have F := F1.out
            rw [hrt, if_neg (by decide)] at F
            have F := Lib.hid F
            clear F1
            go_wp2
            refine bodyPost_ret (results_pair rfl _ _ B 50 _ (0, 0) _ rfl (ev_zero hh13 false 0 0) Tryd.underlying50 rfl (by kernel_rfl)) rfl ?_
            exact etake_none (f := 7) (by rw [HBS.out]; exact F.out) (rd_set (rd_set (rd_set hr13 hrB) hrB) hrB) (grown_set (grown_set (grown_set hg13 hbB) hbB) hbB)
          | true =>
            have F := F1.out
            rw [hrt, if_pos rfl] at F
            have F := Lib.hid F
            obtain ⟨d0, d1, d2, _, _, _⟩ := ev_cells he12
            have hB8 : B < w8.heap.size := (Array.getElem?_eq_some_iff.1 hh13).1
            have hC8 : C < w8.heap.size := (Array.getElem?_eq_some_iff.1 he12).1
            clear F1
            go_wp2_with fail
            have hr14 : IsRd w8.drew rb s p := hr13
            have hg14 : w.grownBy w8.drew (some rb) := grown_trans hg13 (grownBy_drew w8 _)
            have d0d : w8.drew.cell? ⟨C, 0, none⟩ = some (.bool l) := d0
            have d1d : w8.drew.cell? ⟨C, 1, none⟩ = some (.int .i64 (r : Int)) := d1
            have d2d : w8.drew.cell? ⟨C, 2, none⟩ = some (.int .i64 y) := d2
            have hhd : w8.drew.heap[B]? = some (evObj false 0 0) := hh13
            have hed : w8.drew.heap[C]? = some (evObj l r y) := he12
            have hB8d : B < w8.drew.heap.size := hB8
            have hC8d : C < w8.drew.heap.size := hC8
            have sw1 : IntKind.i64.wrap ((p : Int) + 22) = (p : Int) + 22 := IntWalk.i64_in _ (by omega)
            have k0 : (0 : Int) ≤ (p : Int) + 22 := by omega
            have kn : ((p : Int) + 22).toNat = p + 22 := by omega
            have HBX := Lib.hid (fun (x : World) (hx : w8.drew.grownBy x (some rb)) => ((hx.block B hB8d (by simpa using Ne.symm hrB)).trans hhd : x.heap[B]? = some (evObj false 0 0)))
            have HCX := Lib.hid (fun (x : World) (hx : w8.drew.grownBy x (some rb)) => ((hx.block C hC8d (by simpa using Ne.symm hCr)).trans hed : x.heap[C]? = some (evObj l r y)))
            clear c0 c1 c2 f0 f1 f2 d0 d1 d2 hB8 hC8 hh13 he12 hr13 hg13 hhd hed
            go_region_with (first
              | (go_at_call 22; refine (at_code _ _ _ _ (by assumption)).mono ?_; rintro e w9 ⟨rfl, rfl⟩)
              | (go_at_call 17; refine (seek_code _ _ _ _ _ (by assumption) (by omega) (by omega)).mono ?_; rintro e w9 ⟨rfl, hr15, hg15⟩; have hh15 := HBX.out _ hg15; obtain ⟨c0, c1, c2, f0, f1, f2⟩ := ev_cells hh15; obtain ⟨b0, b1, b2, _, _, _⟩ := ev_cells (HCX.out _ hg15)))
            all_goals
              rw [kn] at hr15
              have hg16 := grown_trans hg14 hg15
              go_wp2
              refine bodyPost_ret (results_pair rfl _ _ B 50 _ (0, 0) _ rfl (ev_zero hh15 l r y) Tryd.underlying50 rfl (by kernel_rfl)) rfl ?_
              exact etake_at (by rw [HBS.out]; exact F.out) (rd_set (rd_set (rd_set hr15 hrB) hrB) hrB) (grown_set (grown_set (grown_set hg16 hbB) hbB) hbB)
      · have hnl : lenT i + 1 = n := by rw [← hn, if_neg h102]
        have F0 := etk_table hg h102 (by rw [hnl]; exact hle)
        rw [hnl, hv] at F0
        have hev := fun x hx => event_code i v (by omega) x hx
        obtain ⟨⟨l, r, y⟩, he⟩ : ∃ x, signT (evT i) (v % 2 == 1) = x := ⟨_, rfl⟩
        rw [he] at F0 hev
        have F := Lib.hid F0
        have EV : Hid (∀ x, HasT x → Calls Tryd.prog 68 #[.int .i64 (i : Int), .int .i64 (v : Int)] x fun e w' => e = .returned (.agg #[.bool l, .int .i64 (r : Int), .int .i64 y]) ∧ Below x.heap.size x w') := Lib.hid hev
        have g0 : ((i : Int) != 102) = true := by simp; omega
        have hpn : (p : Int) + n ≤ 8 * (s.size : Int) := by have := BL.out; omega
        have hps : p ≤ 1125899906842624 := by omega
        clear hsh hn hg hlb F0 hev he hv hnl h102 hle
        go_wp2_with fail
        refine hdi.mono ?_
        rintro e w3 ⟨rfl, hb3⟩
        have hb4 := hb2.trans (hb3.mono hz2)
        have hr4 := HR.out _ hb4
        have hz4 := Nat.le_trans hz2 hb3.size
        clear hb2 hb3 hz2 hdi
        go_wp2_with fail
        refine (peek_code _ _ _ _ _ hr4).mono ?_
        rintro e w4 ⟨rfl, hb5⟩
        rw [A.out]
        have hb6 := hb4.trans (hb5.mono hz4)
        clear hb4 hb5 hr4 hz4
        have hz6 := Nat.le_trans (by omega : B + 1 ≤ w1.heap.size) hb6.size
        go_wp2_with fail
        refine (EV.out _ (HP.out _ hb6)).mono ?_
        rintro e w5 ⟨rfl, hb7⟩
        have hb8 := hb6.trans (hb7.mono hz6)
        have hr8 := HR.out _ hb8
        have hh8 := HH.out _ hb8
        have hg8 := HG.out _ hb8
        have hB8 : B < w5.heap.size := (Array.getElem?_eq_some_iff.1 hh8).1
        clear hb6 hb7 hz6 hb8
        go_wp2_with fail
        refine (at_code _ _ _ _ hr8).mono ?_
        rintro e w6 ⟨rfl, rfl⟩
        go_wp2_with fail
        refine (seek_code _ _ _ _ _ hr8 (by omega) (by omega)).mono ?_
        rintro e w6 ⟨rfl, hr9, hg9⟩
        rw [show ((p : Int) + n).toNat = p + n by omega] at hr9
        have hh9 : w6.heap[B]? = some (evObj false 0 0) := (hg9.block B hB8 (by simpa using Ne.symm hrB)).trans hh8
        have hg10 := grown_trans hg8 hg9
        obtain ⟨c0, c1, c2, f0, f1, f2⟩ := ev_cells hh9
        go_wp2
        refine bodyPost_ret (results_pair rfl _ _ B 50 _ (0, 0) _ rfl (ev_zero hh9 l r y) Tryd.underlying50 rfl (by kernel_rfl)) rfl ?_
        exact etake_at (by rw [HBS.out]; exact F.out) (rd_set (rd_set (rd_set hr9 hrB) hrB) hrB) (grown_set (grown_set (grown_set hg10 hbB) hbB) hbB)
  · have F := Lib.hid (etk_not hg hf)
    have hh2 := HH.out _ hb2
    obtain ⟨c0, c1, c2, f0, f1, f2⟩ := ev_cells hh2
    have g0 : (f != 0) = true := by simpa using hf
    clear hf hg
    go_wp2
    refine bodyPost_ret (results_pair rfl _ _ B 50 _ (0, 0) _ rfl (ev_zero hh2 false 0 0) Tryd.underlying50 rfl (by kernel_rfl)) rfl ?_
    exact etake_none (by rw [HBS.out]; exact F.out) (rd_set (rd_set (rd_set (HR.out _ hb2) hrB) hrB) hrB) (grown_set (grown_set (grown_set (HG.out _ hb2) hbB) hbB) hbB)
end Go.Proofs.YtologhgoojkpmaaDoor
