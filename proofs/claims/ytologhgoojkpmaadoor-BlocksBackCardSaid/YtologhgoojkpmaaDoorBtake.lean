/- Package blocks: Take, by its code. Conditions: a Reader's (texts of at most 2^47 bytes), and what package tcoef's tables hold. -/
import Derived.Test.YtologhgoojkpmaaDoorBk
import Derived.Test.YtologhgoojkpmaaDoorEtake
import Derived.Test.YtologhgoojkpmaaDoorSame
import Derived.WalkMore
import Derived.Maps.Range
import Derived.Deep.AppendLies
namespace Go.Proofs.YtologhgoojkpmaaDoor
open Go.RowKit Go.Lib

theorem HasT.grown {w w' : World} {rb p : Nat} {s : ByteArray} (h : HasT w) (hr : IsRd w rb s p) (hg : w.grownBy w' (some rb)) : HasT w' := by
  have far : ∀ b, (∀ k x, w.cell? ⟨b, 0, none⟩ = some (.int k x) → b ≠ rb) := fun b k x hc e => by
    subst e
    rw [hr.cells.1] at hc
    cases hc
  have n0 := far _ _ _ (h.1 0 (by decide)).1
  have n1 := far _ _ _ (h.1 0 (by decide)).2
  have n2 := far _ _ _ (h.2 0 (by decide))
  exact ⟨fun i hi => ⟨(hg.cell_far ⟨0, i, none⟩ h.lt.1 (by simpa using n0)).trans (h.1 i hi).1, (hg.cell_far ⟨1, i, none⟩ h.lt.2.1 (by simpa using n1)).trans (h.1 i hi).2⟩,
    fun i hi => (hg.cell_far ⟨2, i, none⟩ h.lt.2.2 (by simpa using n2)).trans (h.2 i hi)⟩

theorem HasT.under {w w' : World} {B : Nat} (h : HasT w) (hb : Below B w w') (h0 : 0 < B ∧ 1 < B ∧ 2 < B) : HasT w' :=
  ⟨fun i hi => ⟨(hb.cell (p := ⟨0, i, none⟩) h0.1).trans (h.1 i hi).1, (hb.cell (p := ⟨1, i, none⟩) h0.2.1).trans (h.1 i hi).2⟩,
    fun i hi => (hb.cell (p := ⟨2, i, none⟩) h0.2.2).trans (h.2 i hi)⟩
theorem IsRd.under {w w' : World} {B rb p : Nat} {s : ByteArray} (h : IsRd w rb s p) (hb : Below B w w') (h0 : rb < B) : IsRd w' rb s p := ⟨by rw [hb.block rb h0]; exact h.1, h.2⟩
theorem grown_under {a b c : World} {row : Option Nat} {B : Nat} (h : a.grownBy b row) (hb : Below B b c) (h0 : a.heap.size ≤ B) : a.grownBy c row :=
  ⟨hb.os.trans h.os, hb.tape.trans h.tape, hb.output.trans h.output, Nat.le_trans h.size hb.size, fun k hk hne => (hb.block k (by omega)).trans (h.block k hk hne)⟩

/-! ### dc -/
def DcGives (s : ByteArray) (rb p : Nat) (i : Bool) (w : World) (e : Ending) (w' : World) : Prop :=
  ∃ (d f : Int) (n q : Nat), dcT ((showL s.data.toList).drop p) i = (d, f, n) ∧ e = .returned (.tuple #[.int .i64 d, .int .i64 f]) ∧ IsRd w' rb s q ∧ (f = 0 → q = p + n) ∧ w.grownBy w' (some rb)
theorem dc_gives {s : ByteArray} {rb p q n : Nat} {i : Bool} {w w' : World} {d f : Int} (h : dcT ((showL s.data.toList).drop p) i = (d, f, n)) (hr : IsRd w' rb s q) (hq : f = 0 → q = p + n) (hg : w.grownBy w' (some rb)) :
    DcGives s rb p i w (.returned (.tuple #[.int .i64 d, .int .i64 f])) w' := ⟨d, f, n, q, h, rfl, hr, hq, hg⟩
set_option maxHeartbeats 1000000 in
theorem takedc_code (w : World) (rb : Nat) (s : ByteArray) (p : Nat) (i : Bool) (hr : IsRd w rb s p) :
    Calls Tryd.prog 42 #[.pointer (some ⟨rb, 0, none⟩), .bool i] w (DcGives s rb p i w) := by
  have hg0 : w.grownBy w (some rb) := below_grownBy (Below.refl _ w) _
  cases i with
  | false =>
    go_enter Tryd.func42, Tryd.ntmps42
    go_wp2
    go_ret2
    exact dc_gives rfl hr (fun _ => rfl) hg0
  | true =>
    have hsl : s.data.toList.length = s.size := rfl
    have hpl := hr.2.1
    have hbl : ((showL s.data.toList).drop p).length = 8 * s.size - p := by rw [List.length_drop, showL_length]; rfl
    have htk := take_code w rb s p 8 hr
    by_cases h8 : 8 * s.size < p + 8
    · have A := ask_short (l := s.data.toList) (p := p) (n := 8) (by decide) (by rw [hsl]; omega)
      have F := Lib.hid (dcT_short (b := (showL s.data.toList).drop p) (by omega))
      have Q : askTo s.data.toList p 8 = p := by unfold askTo; rw [A]; rfl
      rw [A, Q] at htk
      clear hg0 hr hbl h8 A Q
      go_enter Tryd.func42, Tryd.ntmps42
      go_wp2_with fail
      refine htk.mono ?_
      rintro e w1 ⟨rfl, hr1, hg1⟩
      go_wp2
      go_ret2
      exact dc_gives F.out hr1 (fun h => by cases h) hg1
    · have A := ask_ok (l := s.data.toList) (p := p) (n := 8) (by decide) (by rw [hsl]; omega)
      have Q : askTo s.data.toList p 8 = p + 8 := by unfold askTo; rw [A]; rfl
      obtain ⟨v, hv⟩ : ∃ v, num (((showL s.data.toList).drop p).take 8) = v := ⟨_, rfl⟩
      have hv2 : tell s.data.toList p (8 : Int).toNat = v := hv
      have hlt : v < 256 := by rw [← hv2]; exact tell_lt _ _ 8
      rw [A, Q, hv2] at htk
      have hge : 8 ≤ ((showL s.data.toList).drop p).length := by omega
      clear hg0 hr hbl h8 A Q hv2
      by_cases h255 : v = 255
      · subst h255
        have F := Lib.hid (dcT_mid hge hv)
        clear hv hge
        go_enter Tryd.func42, Tryd.ntmps42
        go_wp2_with fail
        refine htk.mono ?_
        rintro e w1 ⟨rfl, hr1, hg1⟩
        go_wp2
        go_ret2
        exact dc_gives F.out hr1 (fun _ => rfl) hg1
      have g255 : ((v : Int) == 255) = false := by rw [beq_eq_false_iff_ne]; omega
      by_cases h128 : v = 128
      · subst h128
        have F := Lib.hid (dcT_not hge (.inr hv))
        clear hv hge g255 h255
        go_enter Tryd.func42, Tryd.ntmps42
        go_wp2_with fail
        refine htk.mono ?_
        rintro e w1 ⟨rfl, hr1, hg1⟩
        go_wp2
        go_ret2
        exact dc_gives F.out hr1 (fun h => by cases h) hg1
      have g128 : ((v : Int) == 128) = false := by rw [beq_eq_false_iff_ne]; omega
      by_cases h0 : v = 0
      · subst h0
        have F := Lib.hid (dcT_not hge (.inl hv))
        clear hv hge g255 h255 g128 h128
        go_enter Tryd.func42, Tryd.ntmps42
        go_wp2_with fail
        refine htk.mono ?_
        rintro e w1 ⟨rfl, hr1, hg1⟩
        go_wp2
        go_ret2
        exact dc_gives F.out hr1 (fun h => by cases h) hg1
      have t0 : decide ((v : Int) < 1) = false := by simp; omega
      have F := Lib.hid (dcT_ok hge hv h0 h128 h255)
      clear hv hge h255 h128 h0
      go_enter Tryd.func42, Tryd.ntmps42
      go_wp2_with fail
      refine htk.mono ?_
      rintro e w1 ⟨rfl, hr1, hg1⟩
      go_wp2
      go_ret2
      exact dc_gives F.out hr1 (fun _ => rfl) hg1

/-! ### Events -/
def EvsGives (s : ByteArray) (rb p a : Nat) (w : World) (e : Ending) (w' : World) : Prop :=
  ∃ (L : List Ev) (f : Int) (n t : Nat) (q : Option Addr) (c : Nat), eloop (showL s.data.toList) (65 - a) [] p a = (L, f, n) ∧ e = .returned (.tuple #[.slice q L.length c, .int .i64 f]) ∧ EvsIn w' q L ∧ IsRd w' rb s t ∧ (f = 0 → t = n) ∧ w.grownBy w' (some rb)
theorem evs_gives {s : ByteArray} {rb p a n t c m : Nat} {w w' : World} {L : List Ev} {f : Int} {q : Option Addr} (h : eloop (showL s.data.toList) (65 - a) [] p a = (L, f, n)) (hm : L.length = m) (he : EvsIn w' q L) (hr : IsRd w' rb s t) (ht : f = 0 → t = n) (hg : w.grownBy w' (some rb)) :
    EvsGives s rb p a w (.returned (.tuple #[.slice q m c, .int .i64 f])) w' := ⟨L, f, n, t, q, c, h, by rw [hm], he, hr, ht, hg⟩
set_option maxRecDepth 100000 in
set_option maxHeartbeats 2000000 in
theorem takeevs_code (w : World) (rb : Nat) (s : ByteArray) (p a : Nat) (ha : a ≤ 1) (hp : HasT w) (hr : IsRd w rb s p) :
    Calls Tryd.prog 43 #[.pointer (some ⟨rb, 0, none⟩), .int .i64 (a : Int)] w (EvsGives s rb p a w) := by
  obtain ⟨i1, hj, kz0, kz1, kz2⟩ := info_parts info_ev
  obtain ⟨B, hB⟩ : ∃ B, w.heap.size = B := ⟨_, rfl⟩
  have hrB : rb < B := by rw [← hB]; exact hr.lt
  have hg0 : w.grownBy w (some rb) := below_grownBy (Below.refl _ w) _
  have HB := Lib.hid hB
  have hz0 : B ≤ w.heap.size := by omega
  have LT := Lib.hid (show 0 < B ∧ 1 < B ∧ 2 < B by rw [← hB]; exact hp.lt)
  have hwB : w.heap.size ≤ B := by omega
  obtain ⟨S, hS⟩ : ∃ S, showL s.data.toList = S := ⟨_, rfl⟩
  have HS := Lib.hid hS
  have hsl : S.length = 8 * s.size := by rw [← hS, showL_length]; rfl
  have hget := fun x t hx hy => eget_code x rb s t hx hy
  unfold ETake at hget
  rw [hS] at hget
  have GET := Lib.hid hget
  clear hB hS hget
  go_enter Tryd.func43, Tryd.ntmps43
  go_wp2
  go_step3
  go_wp2
  go_step3
  go_wp2
  go_loopw [1, 6] (fun u v wr => ∃ (acc : List Ev) (m t : Nat), u = .int .i64 m ∧ m ≤ 64 ∧ acc.length ≤ m ∧ wr.ownsRow B 50 3 v acc.length (cellsV acc) ∧ EvR S a p acc m t ∧ IsRd wr rb s t ∧ w.grownBy wr (some rb) ∧ B ≤ wr.heap.size ∧ HasT wr) (fun u _ _ => 65 - (RowKit.intOf u).toNat)
  case atStart => exact ⟨[], a, p, rfl, by omega, Nat.zero_le _, World.ownsRow_nil _ _ _ _, EvR.first _ _ _, hr, hg0, hz0, hp⟩
  case round =>
    clear hr hg0 hz0 hp
    obtain ⟨acc, m, t, rfl, hm, hal, hown, hst, hr, hg, hz, hT⟩ := hrel
    obtain ⟨⟨l, r, v⟩, f, n, het⟩ : ∃ x f n, etk (S.drop t) = (x, f, n) := ⟨_, _, _, rfl⟩
    obtain ⟨hr63, hnl⟩ := etk_most het
    have hge := GET.out _ t hT hr
    rw [het] at hge
    simp only [evVal] at hge
    obtain ⟨al, hal2⟩ : ∃ al, acc.length = al := ⟨_, rfl⟩
    have AL := Lib.hid hal2
    rw [hal2] at hown hal
    have HET := Lib.hid het
    have ST := Lib.hid hst
    have PRE := Lib.hid (fun (x : World) (hx : wr.grownBy x (some rb)) => (⟨grown_trans hg hx, Nat.le_trans hz hx.size, hT.grown hr hx, hown.kept hx (.inr fun e => by have := (hown.lt _ e).1; omega)⟩ : w.grownBy x (some rb) ∧ B ≤ x.heap.size ∧ HasT x ∧ x.ownsRow B 50 3 u6 al (cellsV acc)))
    clear het hnl hg hT hown hst hal2 hr
    go_wp2_with fail
    refine hge.mono ?_
    rintro e w1 ⟨rfl, hr1, hg1⟩
    obtain ⟨hg2, hz2, hT2, hown2⟩ := PRE.out _ hg1
    clear hg1 hge PRE
    obtain ⟨X, hX⟩ : ∃ X, w1.heap.size = X := ⟨_, rfl⟩
    obtain ⟨wx, hwx⟩ : ∃ wx, w1.alloc (.cells #[.bool l, .int .i64 (r : Int), .int .i64 v] 50 (0, 0)) = wx := ⟨_, rfl⟩
    have hzx : wx.heap.size = X + 1 := by rw [← hwx, ← hX]; simp
    have hhx : wx.heap[X]? = some (evObj l (r : Int) v) := by rw [← hwx, ← hX]; exact heap_alloc_new w1 _
    have hbx : Below B w1 wx := by rw [← hwx]; exact (Below.refl _ _).alloc hz2 _
    have hox : wx.ownsRow B 50 3 u6 al (cellsV acc) := by rw [← hwx]; exact hown2.alloc _
    have hoX : ∀ q, Value.ownBlock u6 = some q → B ≤ q ∧ q < X := fun q hq => by have := hown2.lt q hq; omega
    have HX := Lib.hid hX
    have HWX := Lib.hid hwx
    have HXB := Lib.hid (show B ≤ X by omega)
    have NEW := Lib.hid (fun (x : World) (o : Obj) (hx : (wx.alloc o).grownBy x (Value.ownBlock u6)) => (by
      have hb : Below B w1 x := (hbx.alloc (by have := HXB.out; omega) o).grown hx (by simp; have := HXB.out; omega) (fun q hq => (hoX q hq).1)
      have hbk : x.heap[X]? = some (evObj l (r : Int) v) := by
        rw [hx.block X (by simp; omega) (fun e => by have := (hoX X e.symm).2; omega)]
        exact heap_keep hhx
      exact ⟨grown_under hg2 hb hwB, Nat.le_trans hz2 hb.size, hT2.under hb LT.out, hr1.under hb hrB, hbk⟩ : w.grownBy x (some rb) ∧ B ≤ x.heap.size ∧ HasT x ∧ IsRd x rb s (t + n) ∧ x.heap[X]? = some (evObj l (r : Int) v)))
    obtain ⟨c0, c1, c2, _, _, _⟩ := ev_cells hhx
    have hzB : B ≤ wx.heap.size := by omega
    clear hX hwx hbx hhx hoX hg2 hT2 hr1 hown2
    by_cases hf : f = 0
    · have g0 : (f != 0) = false := by simpa using hf
      have het := HET.out
      rw [hf] at het
      have HET := Lib.hid het
      clear hf het
      by_cases h63 : 63 < m + r
      · have t3 : decide (63 < (m : Int) + (r : Int)) = true := by simp; omega
        have F := Lib.hid (ST.out.far hm HET.out h63)
        clear h63
        go_wp2_with (at_builtin; rw [HWX.out, HX.out, ← hzx]; refine wp_append_evA (y0 := l) (y1 := (r : Int)) (y2 := v) rfl rfl Tryd.underlying22 hj kz0 rfl kz1 kz2 rfl (hox.alloc _) rfl ?d1 ?d2 ?d3 ?d4 ?d5 ?_; (case d1 => go_cell); (case d2 => go_cell); (case d3 => go_cell); (case d4 => omega); (case d5 => (simp; omega)); intro v2 w2 ho3 hgrow hat; clear hat; obtain ⟨hg3, hz3, hT3, hr3, hh3⟩ := NEW.out _ _ hgrow; obtain ⟨e0, e1, e2, _, _, _⟩ := ev_cells hh3; clear hgrow)
        rw [Exit.noGoto_ret]
        go_ret2
        exact evs_gives (by rw [HS.out]; exact F.out) rfl (.inl rfl) hr3 (fun h => by cases h) hg3
      · have t3 : decide (63 < (m : Int) + (r : Int)) = false := by simp; omega
        cases l with
        | true =>
          have F := Lib.hid (ST.out.end hm HET.out (by omega))
          have hlen : (acc ++ [(true, (r : Int), v)]).length = al + 1 := by rw [List.length_append, AL.out]; rfl
          have HLEN := Lib.hid hlen
          have HCS := Lib.hid (cellsV_snoc acc (true, (r : Int), v))
          clear h63 hlen
          go_wp2_with (at_builtin; rw [HWX.out, HX.out, ← hzx]; refine wp_append_evA (y0 := true) (y1 := (r : Int)) (y2 := v) rfl rfl Tryd.underlying22 hj kz0 rfl kz1 kz2 rfl (hox.alloc _) rfl ?d1 ?d2 ?d3 ?d4 ?d5 ?_; (case d1 => go_cell); (case d2 => go_cell); (case d3 => go_cell); (case d4 => omega); (case d5 => (simp; omega)); intro v2 w2 ho3 hgrow hat; clear hat; obtain ⟨hg3, hz3, hT3, hr3, hh3⟩ := NEW.out _ _ hgrow; obtain ⟨e0, e1, e2, _, _, _⟩ := ev_cells hh3; clear hgrow)
          rw [Exit.noGoto_ret]
          have ho4 : w2.ownsRow B 50 3 v2 (acc ++ [(true, (r : Int), v)]).length (cellsV (acc ++ [(true, (r : Int), v)])) := by rw [HLEN.out, HCS.out]; exact ho3
          obtain ⟨q, cap, rfl, hev⟩ := owns_evs ho4
          have HEV := Lib.hid hev
          rw [HLEN.out]
          clear ho3 ho4 hev
          go_ret2
          exact evs_gives (by rw [HS.out]; exact F.out) HLEN.out HEV.out hr3 (fun _ => rfl) hg3
        | false =>
          have N := Lib.hid (ST.out.on hm HET.out (by omega))
          have h64 : m + r ≤ 63 := by omega
          clear h63
          go_wp2_with (at_builtin; rw [HWX.out, HX.out, ← hzx]; refine wp_append_evA (y0 := false) (y1 := (r : Int)) (y2 := v) rfl rfl Tryd.underlying22 hj kz0 rfl kz1 kz2 rfl (hox.alloc _) rfl ?d1 ?d2 ?d3 ?d4 ?d5 ?_; (case d1 => go_cell); (case d2 => go_cell); (case d3 => go_cell); (case d4 => omega); (case d5 => (simp; omega)); intro v2 w2 ho3 hgrow hat; clear hat; obtain ⟨hg3, hz3, hT3, hr3, hh3⟩ := NEW.out _ _ hgrow; obtain ⟨e0, e1, e2, _, _, _⟩ := ev_cells hh3; clear hgrow)
          go_roundw
          case rel => exact ⟨acc ++ [(false, (r : Int), v)], m + r + 1, t + n, by go_num, by omega, by rw [List.length_append, AL.out]; simp; omega, by rw [List.length_append, cellsV_snoc, AL.out]; exact ho3, N.out, hr3, hg3, hz3, hT3⟩
          case measure => simp [RowKit.intOf]; omega
    · have g0 : (f != 0) = true := by simpa using hf
      have F := Lib.hid (ST.out.err hm HET.out hf)
      have HF := Lib.hid hf
      clear hf
      go_wp2_with (at_builtin; rw [HWX.out, HX.out, ← hzx]; refine wp_append_evA (y0 := l) (y1 := (r : Int)) (y2 := v) rfl rfl Tryd.underlying22 hj kz0 rfl kz1 kz2 rfl (hox.alloc _) rfl ?d1 ?d2 ?d3 ?d4 ?d5 ?_; (case d1 => go_cell); (case d2 => go_cell); (case d3 => go_cell); (case d4 => omega); (case d5 => (simp; omega)); intro v2 w2 ho3 hgrow hat; clear hat; obtain ⟨hg3, hz3, hT3, hr3, hh3⟩ := NEW.out _ _ hgrow; obtain ⟨e0, e1, e2, _, _, _⟩ := ev_cells hh3; clear hgrow)
      rw [Exit.noGoto_ret]
      go_ret2
      exact evs_gives (by rw [HS.out]; exact F.out) rfl (.inl rfl) hr3 (fun h => absurd h HF.out) hg3

/-! ### Take -/
def TkIn (s : ByteArray) (rb p : Nat) (i c : Bool) (w : World) (e : Ending) (w' : World) : Prop :=
  ∃ (d : Int) (L : List Ev) (f : Int) (t m : Nat) (q : Option Addr) (cap : Nat), e = .returned (.tuple #[.int .i64 d, .slice q m cap, .int .i64 f]) ∧ L.length = m ∧ EvsIn w' q L ∧ IsRd w' rb s t ∧ w.grownBy w' (some rb) ∧ (f = 0 → btk (showL s.data.toList) p i c = (d, L, t, 0)) ∧ (f ≠ 0 → btk (showL s.data.toList) p i c = (0, [], p, f))
set_option maxHeartbeats 1000000 in
theorem btake_in (w : World) (rb : Nat) (s : ByteArray) (p : Nat) (i c : Bool) (hp : HasT w) (hr : IsRd w rb s p) :
    Calls Tryd.prog 31 #[.pointer (some ⟨rb, 0, none⟩), .bool i, .bool c] w (TkIn s rb p i c w) := by
  have hdc := takedc_code w rb s p i hr
  have hfr := fun x => bfrom_code i x
  have ha : fromB i ≤ 1 := by cases i <;> decide
  have hev := fun x p hx hy => takeevs_code x rb s p (fromB i) ha hx hy
  obtain ⟨S, hS⟩ : ∃ S, showL s.data.toList = S := ⟨_, rfl⟩
  have HS := Lib.hid hS
  have HT := Lib.hid (fun (x : World) (hx : w.grownBy x (some rb)) => (hp.grown hr hx : HasT x))
  unfold TkIn
  rw [hS]
  unfold DcGives at hdc
  rw [hS] at hdc
  unfold EvsGives at hev
  rw [hS] at hev
  have BT := Lib.hid (fun (d : Int) (n : Nat) (L : List Ev) (f : Int) (e : Nat) (h : dcT (S.drop p) i = (d, 0, n)) (he : eloop S (65 - fromB i) [] (p + n) (fromB i) = (L, f, e)) => (⟨fun hf => btk_ev h he hf, fun hf => btk_all h (by rw [he, hf])⟩ : (f ≠ 0 → btk S p i true = (0, [], p, f)) ∧ (f = 0 → btk S p i true = (d, L, e, 0))))
  generalize fromB i = a at hfr hev BT ha
  have EV := Lib.hid hev
  clear hp hr hS hev
  go_enter Tryd.func31, Tryd.ntmps31
  go_wp2_with fail
  refine hdc.mono ?_
  rintro e w1 ⟨d, f, n, q, hdt, rfl, hr1, hq, hg1⟩
  have hT1 := HT.out _ hg1
  have DT := Lib.hid hdt
  have HQ := Lib.hid hq
  clear hdt hq hdc
  by_cases hf : f = 0
  · have g0 : (f != 0) = false := by simpa using hf
    have hq := HQ.out hf
    have hdt := DT.out
    rw [hf] at hdt
    subst hq
    have DT := Lib.hid hdt
    have HF := Lib.hid hf
    clear hdt hf
    cases c with
    | false =>
      have F := Lib.hid (btk_bare DT.out)
      go_wp2
      go_ret3
      exact ⟨d, [], f, p + n, 0, none, 0, rfl, rfl, .inl rfl, hr1, hg1, fun _ => F.out, fun h => absurd HF.out h⟩
    | true =>
      go_wp2_with fail
      refine (hfr _).mono ?_
      rintro e w2 ⟨rfl, rfl⟩
      go_wp2_with fail
      refine (EV.out _ _ hT1 hr1).mono ?_
      rintro e w2 ⟨L, f2, n2, t2, q2, c2, hel, rfl, hev, hr2, ht2, hg2⟩
      have B2 := Lib.hid (BT.out d n L f2 n2 DT.out hel)
      have HT2 := Lib.hid ht2
      have HEV := Lib.hid hev
      have hg3 := grown_trans hg1 hg2
      clear hel ht2 hev
      obtain ⟨m, hm⟩ : ∃ m, L.length = m := ⟨_, rfl⟩
      have HM := Lib.hid hm
      rw [hm]
      clear hm
      go_wp2
      go_ret3
      exact ⟨d, L, f2, t2, m, q2, c2, rfl, HM.out, HEV.out, hr2, hg3, fun h => by rw [HT2.out h]; exact B2.out.2 h, B2.out.1⟩
  · have g0 : (f != 0) = true := by simpa using hf
    have F := Lib.hid (btk_dc (c := c) DT.out hf)
    have HF := Lib.hid hf
    clear hf
    go_wp2
    go_ret3
    exact ⟨d, [], f, q, 0, none, 0, rfl, rfl, .inl rfl, hr1, hg1, fun h => absurd h HF.out, fun _ => F.out⟩

def BTake (s : ByteArray) (rb p : Nat) (i c : Bool) (w : World) (e : Ending) (w' : World) : Prop :=
  ∃ (d : Int) (L : List Ev) (f : Int) (t m : Nat) (q : Option Addr) (cap : Nat), btk (showL s.data.toList) p i c = (d, L, t, f) ∧ e = .returned (.tuple #[.int .i64 d, .slice q m cap, .int .i64 f]) ∧ L.length = m ∧ EvsIn w' q L ∧ IsRd w' rb s t ∧ w.grownBy w' (some rb)
set_option maxHeartbeats 1000000 in
theorem btake_nil (i c : Bool) (w : World) : Calls Tryd.prog 18 #[.pointer none, .bool i, .bool c] w fun e w' => e = .returned (.tuple #[.int .i64 0, .slice none 0 0, .int .i64 1]) ∧ w = w' := by
  go_enter Tryd.func18, Tryd.ntmps18
  go_wp2
  go_ret3
  exact ⟨rfl, rfl⟩
set_option maxHeartbeats 1000000 in
theorem btake_code (w : World) (rb : Nat) (s : ByteArray) (p : Nat) (i c : Bool) (hp : HasT w) (hr : IsRd w rb s p) :
    Calls Tryd.prog 18 #[.pointer (some ⟨rb, 0, none⟩), .bool i, .bool c] w (BTake s rb p i c w) := by
  have hin := btake_in w rb s p i c hp hr
  have hps := hr.2.1
  have hat := at_code w rb s p hr
  unfold TkIn at hin
  unfold BTake
  generalize hS : showL s.data.toList = S at hin ⊢
  clear hS hp hr
  go_enter Tryd.func18, Tryd.ntmps18
  go_wp2_with fail
  refine hat.mono ?_
  rintro e w1 ⟨rfl, rfl⟩
  go_wp2_with fail
  refine hin.mono ?_
  rintro e w1 ⟨d, L, f, t, m, q, cap, rfl, hm, hev, hr1, hg1, hok, hno⟩
  have HM := Lib.hid hm
  have HEV := Lib.hid hev
  by_cases hf : f = 0
  · have g0 : (f != 0) = false := by simpa using hf
    have F := Lib.hid (hok hf)
    clear hf hok hno hm hev hat hin
    go_wp2
    go_ret3
    exact ⟨d, L, 0, t, m, q, cap, F.out, rfl, HM.out, HEV.out, hr1, hg1⟩
  · have g0 : (f != 0) = true := by simpa using hf
    have F := Lib.hid (hno hf)
    clear hf hok hno hm hev hat hin
    go_wp2_with fail
    refine (seek_code _ _ _ _ (p : Int) hr1 (by omega) (by omega)).mono ?_
    rintro e w2 ⟨rfl, hr2, hg2⟩
    rw [Int.toNat_natCast] at hr2
    have hg3 := grown_trans hg1 hg2
    go_wp2
    go_ret3
    exact ⟨0, [], f, p, 0, none, 0, F.out, rfl, rfl, .inl rfl, hr2, hg3⟩
end Go.Proofs.YtologhgoojkpmaaDoor
