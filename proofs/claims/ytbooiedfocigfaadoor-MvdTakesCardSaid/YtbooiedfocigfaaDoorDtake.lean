/- What package mvd takes from a Reader, or what is wrong. Conditions: a Reader of a text of at most 2^47 bytes; the variables hold their tables. -/
import Derived.Test.YtbooiedfocigfaaDoorDtk
import Derived.RegionTactic
import Derived.Deep.RegionWith
namespace Go.Proofs.YtbooiedfocigfaaDoor
open Go.RowKit Go.Lib

/-! ### Which amount's code begins with some bits -/
/-- Does an amount's code begin with n bits that tell v? -/
def begP (v n i : Nat) : Bool := decide (n ≤ lenAt i) && (codeAt i / 2 ^ (lenAt i - n) == v)
theorem begP_pre {q : List UInt8} (hq : isRow q = true) {i : Nat} (hi : i < 33) : begP (num q) q.length i = q.isPrefixOf (ampL i) := (head_num hq (amount_fits i hi).2.2.1).symm
/-- The table of lengths, as the loop has copied it. -/
def lenV : Value := .agg (lenZ.map fun z => Value.int .i64 (z : Nat)).toArray
theorem lenV_at (w : World) (i : Nat) (h : i < 33) : (Instr.index 51 lenV (.int .i64 (i : Int))).run Tryd.prog w = .ok (.int .i64 (lenAt i : Nat)) w := by
  rcases (by omega : i = 0 ∨ i = 1 ∨ i = 2 ∨ i = 3 ∨ i = 4 ∨ i = 5 ∨ i = 6 ∨ i = 7 ∨ i = 8 ∨ i = 9 ∨ i = 10 ∨ i = 11 ∨ i = 12 ∨ i = 13 ∨ i = 14 ∨ i = 15 ∨ i = 16 ∨ i = 17 ∨ i = 18 ∨ i = 19 ∨ i = 20 ∨ i = 21 ∨ i = 22 ∨ i = 23 ∨ i = 24 ∨ i = 25 ∨ i = 26 ∨ i = 27 ∨ i = 28 ∨ i = 29 ∨ i = 30 ∨ i = 31 ∨ i = 32) with rfl | rfl | rfl | rfl | rfl | rfl | rfl | rfl | rfl | rfl | rfl | rfl | rfl | rfl | rfl | rfl | rfl | rfl | rfl | rfl | rfl | rfl | rfl | rfl | rfl | rfl | rfl | rfl | rfl | rfl | rfl | rfl | rfl
  all_goals kernel_rfl
/-- What the search gives. -/
def BegGives (v n : Nat) (w : World) (e : Ending) (w' : World) : Prop :=
  ((∃ i : Nat, i < 33 ∧ begP v n i = true ∧ e = .returned (.tuple #[.int .i64 (i : Int), .bool true])) ∨ ((∀ i, i < 33 → begP v n i = false) ∧ e = .returned (.tuple #[.int .i64 0, .bool false]))) ∧ w = w'
theorem lens_agg : ∀ w, (isAgg 51).run Tryd.prog w = .ok true w := fun _ => by kernel_rfl
theorem lens_size : ∀ w, (Go.sizeOf 51).run Tryd.prog w = .ok 33 w := fun _ => by kernel_rfl
theorem lenZ_len : (lenZ.map fun z => Value.int .i64 (z : Nat)).length = 33 := rfl
theorem load_lens (w : World) (hp : HasMvd w) : (loadVar 51 ⟨0, 0, none⟩).run Tryd.prog w = .ok lenV w := by
  have hl := run_loadCells_list (P := Tryd.prog) w ⟨0, 0, none⟩ (lenZ.map fun z => Value.int .i64 (z : Nat)) (fun j v hj => by
    have hj33 : j < 33 := by
      have := (List.getElem?_eq_some_iff.1 hj).1
      rwa [lenZ_len] at this
    have h2 := (hp j hj33).2
    rw [Addr.add_lit, Nat.zero_add, h2]
    rw [List.getElem?_map] at hj
    obtain ⟨z, hz, rfl⟩ := Option.map_eq_some_iff.1 hj
    unfold lenAt
    rw [hz]
    rfl)
  rw [lenZ_len] at hl
  unfold loadVar
  simp only [Sem.run_bind, lens_agg, Result.andThen_ok, if_true, lens_size, hl, Sem.run_pure]
  rfl
/-- The loop copies the table. -/
theorem wpList_lens {ops : Array Oper} {rest : List Oper} {a : Act} {w : World} {Q : Exit → Act → World → Prop} {pos : String} {ty : TypeId} {after : Array Edge} {d : Option Tmp} (hp : HasMvd w) (h : wpList Tryd.prog ops Q rest (a.put d lenV) w) :
    wpList Tryd.prog ops Q ({ dst := d, op := Op.load 51 (Operand.global 0), type := ty, pos := pos, after := after, guard := none } :: rest) a w :=
  wpList_plain rfl fun _ hK => by
    unfold Oper.wp
    rw [exec_load (ev := a.eval) (ty := 51) (x := .global 0) (ad := ⟨0, 0, none⟩) rfl rfl (load_lens w hp)]
    exact hK _ _ h
set_option maxRecDepth 100000 in
set_option maxHeartbeats 4000000 in
theorem beg_code (v0 n : Nat) (hn : n ≤ 32) (w : World) (hp : HasMvd w) : Calls Tryd.prog 21 #[.int .i64 (v0 : Int), .int .i64 (n : Int)] w (BegGives v0 n w) := by
  have HP := Lib.hid hp
  go_enter Tryd.func21, Tryd.ntmps21
  go_wp2_with (with_reducible refine wpList_lens hp ?_)
  have HPV := Lib.hid (fun (w : World) (i : Nat) (h : i < 33) => lenV_at w i h)
  generalize lenV = pv at HPV ⊢
  clear hp
  go_loop [9] (fun v => ∃ i : Nat, i ≤ 33 ∧ v = .int .i64 i ∧ Hid (∀ j, j < i → begP v0 n j = false)) (fun v => 33 - (intOf v).toNat)
  case atStart => exact ⟨0, by omega, rfl, Lib.hid (fun j h => absurd h (Nat.not_lt_zero j))⟩
  case round =>
    obtain ⟨i, hi33, rfl, hno⟩ := hrel
    by_cases hlt : i < 33
    · have hidx := fun w => HPV.out w i hlt
      obtain ⟨c0, _⟩ := HP.out i hlt
      obtain ⟨b0, b1, b2, b3⟩ := amount_fits i hlt
      clear b2
      have hbeg : begP v0 n i = (decide (n ≤ lenAt i) && (codeAt i / 2 ^ (lenAt i - n) == v0)) := rfl
      have hmore : ∀ r, begP v0 n i = r → r = false → ∀ j, j < i + 1 → begP v0 n j = false := by
        intro r h1 h2 j hj
        by_cases e : j = i
        · subst e; rw [h1, h2]
        · exact hno.out j (by omega)
      have MORE := Lib.hid hmore
      generalize codeAt i = x at c0 b3 hbeg
      generalize lenAt i = y at hidx b0 b1 hbeg
      clear hno hmore
      by_cases hyn : n ≤ y
      · obtain ⟨k, rfl⟩ : ∃ k, y = n + k := ⟨y - n, by omega⟩
        rw [Nat.add_sub_cancel_left, decide_eq_true hyn, Bool.true_and] at hbeg
        have t0 : decide (n ≤ n + k) = true := by simp
        have hcast : ((x : Int) / 2 ^ k == (v0 : Int)) = (x / 2 ^ k == v0) := by
          rw [Bool.eq_iff_iff, beq_iff_eq, beq_iff_eq, ← Int.natCast_inj]
          simp
        rw [← hcast] at hbeg
        cases hg : ((x : Int) / 2 ^ k == (v0 : Int)) with
        | true =>
          have B := Lib.hid (hbeg.trans hg)
          clear hbeg hcast
          go_wp2
          go_ret2
          exact ⟨.inl ⟨i, hlt, B.out, rfl⟩, rfl⟩
        | false =>
          have B := Lib.hid (hbeg.trans hg)
          clear hbeg hcast
          go_wp2
          go_round
          case rel => exact ⟨i + 1, by omega, by go_num, Lib.hid (MORE.out _ B.out rfl)⟩
          case measure => simp [intOf]; omega
      · have t0 : decide (n ≤ y) = false := by simp; omega
        rw [t0, Bool.false_and] at hbeg
        have B := Lib.hid hbeg
        clear hbeg
        go_wp2
        go_round
        case rel => exact ⟨i + 1, by omega, by go_num, Lib.hid (MORE.out _ B.out rfl)⟩
        case measure => simp [intOf]; omega
    · obtain rfl : i = 33 := by omega
      go_wp2
      go_ret2
      exact ⟨.inr ⟨hno.out, rfl⟩, rfl⟩

/-! ### The difference of an amount -/
/-- What Take gives. -/
def DTake (s : ByteArray) (rb p : Nat) (w : World) (e : Ending) (w' : World) : Prop :=
  e = .returned (.tuple #[.int .i64 (dtk ((showL s.data.toList).drop p)).1, .int .i64 (dtk ((showL s.data.toList).drop p)).2.1]) ∧
    IsRd w' rb s (p + (dtk ((showL s.data.toList).drop p)).2.2) ∧ w.grownBy w' (some rb)
theorem dtake_at {s : ByteArray} {rb p n : Nat} {w w' : World} {a f : Int} (h : dtk ((showL s.data.toList).drop p) = (a, f, n)) (hr : IsRd w' rb s (p + n)) (hg : w.grownBy w' (some rb)) :
    DTake s rb p w (.returned (.tuple #[.int .i64 a, .int .i64 f])) w' := by
  unfold DTake
  rw [h]
  exact ⟨rfl, hr, hg⟩
theorem below_one {w w' : World} (hb : Below w.heap.size w w') (b : Nat) : w.grownBy w' (some b) := below_grownBy hb _
theorem and_last {t r : Nat} (h : t % 2 = r) : (bits .and .i64 (t : Int) 1 == 1) = (r == 1) := by
  rw [shr_one, Bool.eq_iff_iff, beq_iff_eq, beq_iff_eq]
  omega
set_option maxRecDepth 100000 in
set_option maxHeartbeats 2000000 in
theorem diff_code (i n : Nat) (w : World) (rb : Nat) (s : ByteArray) (p : Nat) (hp : HasMvd w) (hr : IsRd w rb s p) (hi : i < 33) (he : lenAt i = n) (hn : p + n ≤ 8 * s.size) (hb : ((showL s.data.toList).drop p).take n = ampL i)
    (ht : tk rowsD ((showL s.data.toList).drop p) 25 1 = tk rowsD ((showL s.data.toList).drop p) (26 - n) n) :
    Calls Tryd.prog 22 #[.pointer (some ⟨rb, 0, none⟩), .int .i64 (i : Int)] w (DTake s rb p w) := by
  obtain ⟨bs, hbs⟩ : ∃ bs, (showL s.data.toList).drop p = bs := ⟨_, rfl⟩
  have hbl : bs.length = 8 * s.size - p := by rw [← hbs, List.length_drop, showL_length]; rfl
  have hsl : s.data.toList.length = s.size := rfl
  have hs47 := hr.2.2
  have h12 : n ≤ 12 := by rw [← he]; exact (amount_fits i hi).2.1
  have HBS := Lib.hid hbs
  rw [hbs] at hb ht
  by_cases h0 : i = 0
  · subst h0
    have h1 : n = 1 := by rw [← he]; decide +kernel
    subst h1
    have F := Lib.hid (dtk_zero (b := bs) (by rw [he]; exact hb))
    have c1 : w.cell? ⟨0, 0, none⟩ = some (.int .i64 1) := (hp 0 (by decide)).2
    have hask : ask s.data.toList p 1 = (((tell s.data.toList p 1 : Nat) : Int), 0) := ask_ok (n := 1) (by omega) (by rw [hsl]; omega)
    have hto : askTo s.data.toList p 1 = p + 1 := by unfold askTo; rw [hask]; rfl
    have A := Lib.hid hask
    have T := Lib.hid hto
    clear hask hto hb ht he hbs hbl hp
    go_enter Tryd.func22, Tryd.ntmps22
    go_wp2_with fail
    refine (take_code _ _ _ _ 1 hr).mono ?_
    rintro e w1 ⟨rfl, hr1, hg⟩
    rw [A.out]
    rw [T.out] at hr1
    go_wp2
    go_ret2
    exact dtake_at (by rw [HBS.out]; exact F.out) hr1 hg
  · have g0 : ((i : Int) == 0) = false := by rw [beq_eq_false_iff_ne]; omega
    have c1 : w.cell? ⟨0, i, none⟩ = some (.int .i64 (n : Int)) := by rw [(hp i hi).2, he]
    by_cases hsh : 8 * s.size < p + n + 1
    · have F := Lib.hid (dtk_amp_short hi h0 he (by omega) hb ht (by omega))
      have hask : ask s.data.toList p ((n : Int) + 1) = (0, 2) := ask_short (by omega) (by rw [hsl]; omega)
      have A := Lib.hid hask
      clear hask hb ht he hbs hbl hp
      go_enter Tryd.func22, Tryd.ntmps22
      go_wp2_with fail
      refine (peek_code _ _ _ _ ((n : Int) + 1) hr).mono ?_
      rintro e w1 ⟨rfl, hb1⟩
      rw [A.out]
      go_wp2
      go_ret2
      exact dtake_at (n := 0) (by rw [HBS.out]; exact F.out) (hr.below hb1) (below_one hb1 rb)
    · have hnl : n < bs.length := by omega
      obtain ⟨t, ht0⟩ : ∃ t, tell s.data.toList p (n + 1) = t := ⟨_, rfl⟩
      have hask : ask s.data.toList p ((n : Int) + 1) = ((t : Int), 0) := by
        rw [ask_ok (n := (n : Int) + 1) (by omega) (by rw [hsl]; omega), show ((n : Int) + 1).toNat = n + 1 by omega, ht0]
      have A := Lib.hid hask
      have htl := tell_last s.data.toList p n (by rw [hsl]; omega)
      rw [ht0] at htl
      simp only [hbs] at htl
      obtain ⟨_, htl⟩ := htl
      have HPP := Lib.hid (fun (x : World) (hx : Below w.heap.size w x) => (hp.below hx : HasMvd x))
      have k0 : 0 ≤ (p : Int) + n + 1 := by omega
      have k1 : (p : Int) + n + 1 ≤ 8 * (s.size : Int) := by omega
      have kn : ((p : Int) + n + 1).toNat = p + (n + 1) := by omega
      have HEC := Lib.hid he
      have HIC := Lib.hid hi
      rcases htl with ⟨hc, htm⟩ | ⟨hc, htm⟩
      · have g1 : (bits .and .i64 (t : Int) 1 == 1) = false := and_last htm
        by_cases h32 : i = 32
        · have F := Lib.hid (dtk_amp_most (by rw [← h32]; exact he) hnl (by rw [← h32]; exact hb) hc ht)
          have t1 : decide (31 < (i : Int)) = true := by simp; omega
          clear hask hb ht he hbs hbl hp hc htm ht0 h32
          go_enter Tryd.func22, Tryd.ntmps22
          go_wp2_with fail
          refine (peek_code _ _ _ _ ((n : Int) + 1) hr).mono ?_
          rintro e w1 ⟨rfl, hb1⟩
          rw [A.out]
          go_wp2
          go_ret2
          exact dtake_at (n := 0) (by rw [HBS.out]; exact F.out) (hr.below hb1) (below_one hb1 rb)
        · have F := Lib.hid (dtk_amp_up (by omega) (by omega) he hnl hb hc)
          have t1 : decide (31 < (i : Int)) = false := by simp; omega
          clear hask hb ht he hbs hbl hp hc htm ht0 h32
          go_enter Tryd.func22, Tryd.ntmps22
          go_wp2_with fail
          refine (peek_code _ _ _ _ ((n : Int) + 1) hr).mono ?_
          rintro e w1 ⟨rfl, hb1⟩
          rw [A.out]
          have hr1 := hr.below hb1
          have c2 : w1.cell? ⟨0, i, none⟩ = some (.int .i64 (n : Int)) := by rw [(HPP.out _ hb1 i HIC.out).2, HEC.out]
          have hg1 := below_one hb1 rb
          clear hr c1 hb1
          have hr1d : IsRd w1.drew rb s p := hr1
          have c3 : w1.drew.cell? ⟨0, i, none⟩ = some (.int .i64 (n : Int)) := c2
          have hps : p ≤ 1125899906842624 := by have := hr1.2; omega
          go_wp2_with fail
          have sw1 : IntKind.i64.wrap ((p : Int) + n) = (p : Int) + n := IntWalk.i64_in _ (by omega)
          have sw2 : IntKind.i64.wrap ((p : Int) + n + 1) = (p : Int) + n + 1 := IntWalk.i64_in _ (by omega)
          go_region_with (first | (go_at_call 14; refine (at_code _ _ _ _ (by assumption)).mono ?_; rintro e w3 ⟨rfl, rfl⟩) | (go_at_call 10; refine (seek_code _ _ _ _ _ (by assumption) (by omega) (by omega)).mono ?_; rintro e w3 ⟨rfl, hr3, hg3⟩))
          all_goals
            rw [kn] at hr3
            have hg4 := grown_trans hg1 (grown_trans (grownBy_drew w1 _) hg3)
            go_wp2
            go_ret2
            exact dtake_at (by rw [HBS.out]; exact F.out) hr3 hg4
      · have g1 : (bits .and .i64 (t : Int) 1 == 1) = true := and_last htm
        have F := Lib.hid (dtk_amp_down hi (by omega) he hnl hb hc)
        have t1 : decide (31 < -(i : Int)) = false := by rw [decide_eq_false_iff_not]; omega
        clear hask hb ht he hbs hbl hp hc htm ht0
        go_enter Tryd.func22, Tryd.ntmps22
        go_wp2_with fail
        refine (peek_code _ _ _ _ ((n : Int) + 1) hr).mono ?_
        rintro e w1 ⟨rfl, hb1⟩
        rw [A.out]
        have hr1 := hr.below hb1
        have c2 : w1.cell? ⟨0, i, none⟩ = some (.int .i64 (n : Int)) := by rw [(HPP.out _ hb1 i HIC.out).2, HEC.out]
        have hg1 := below_one hb1 rb
        clear hr c1 hb1
        have hr1d : IsRd w1.drew rb s p := hr1
        have c3 : w1.drew.cell? ⟨0, i, none⟩ = some (.int .i64 (n : Int)) := c2
        have hps : p ≤ 1125899906842624 := by have := hr1.2; omega
        go_wp2_with fail
        have sw1 : IntKind.i64.wrap ((p : Int) + n) = (p : Int) + n := IntWalk.i64_in _ (by omega)
        have sw2 : IntKind.i64.wrap ((p : Int) + n + 1) = (p : Int) + n + 1 := IntWalk.i64_in _ (by omega)
        go_region_with (first | (go_at_call 14; refine (at_code _ _ _ _ (by assumption)).mono ?_; rintro e w3 ⟨rfl, rfl⟩) | (go_at_call 10; refine (seek_code _ _ _ _ _ (by assumption) (by omega) (by omega)).mono ?_; rintro e w3 ⟨rfl, hr3, hg3⟩))
        all_goals
          rw [kn] at hr3
          have hg4 := grown_trans hg1 (grown_trans (grownBy_drew w1 _) hg3)
          go_wp2
          go_ret2
          exact dtake_at (by rw [HBS.out]; exact F.out) hr3 hg4
end Go.Proofs.YtbooiedfocigfaaDoor
