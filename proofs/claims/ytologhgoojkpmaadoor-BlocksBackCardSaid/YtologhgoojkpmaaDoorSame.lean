/- Slices of events: one that comes in, one of the call's own; and the document's own comparison of two (overspillref10). No condition. -/
import Derived.Test.YtologhgoojkpmaaDoorRuns
import Derived.RegionTactic
namespace Go.Proofs.YtologhgoojkpmaaDoor
open Go.RowKit Go.Lib Go.ChangeShapes Go.WideShapes Go.ChangeAt

/-- Events, one behind the other. -/
def EvsIn (w : World) (p : Option Addr) (l : List Ev) : Prop :=
  l = [] ∨ ∃ b o, p = some ⟨b, o, none⟩ ∧ b < w.heap.size ∧ ∀ i, (h : i < l.length) → w.cell? ⟨b, o + i * 3, none⟩ = some (.bool l[i].1) ∧ w.cell? ⟨b, o + i * 3 + 1, none⟩ = some (.int .i64 l[i].2.1) ∧ w.cell? ⟨b, o + i * 3 + 2, none⟩ = some (.int .i64 l[i].2.2)
theorem EvsIn.below {w w' : World} {p : Option Addr} {l : List Ev} (h : EvsIn w p l) (hb : Below w.heap.size w w') : EvsIn w' p l := by
  rcases h with h | ⟨b, o, h1, h2, h3⟩
  · exact .inl h
  · refine .inr ⟨b, o, h1, Nat.lt_of_lt_of_le h2 hb.size, fun i hi => ?_⟩
    rw [hb.cell (p := ⟨b, o + i * 3, none⟩) h2, hb.cell (p := ⟨b, o + i * 3 + 1, none⟩) h2, hb.cell (p := ⟨b, o + i * 3 + 2, none⟩) h2]
    exact h3 i hi
theorem EvsIn.at {w : World} {p : Option Addr} {l : List Ev} (h : EvsIn w p l) (h0 : 0 < l.length) :
    ∃ b o, p = some ⟨b, o, none⟩ ∧ b < w.heap.size ∧ ∀ i, (h : i < l.length) → w.cell? ⟨b, o + i * 3, none⟩ = some (.bool l[i].1) ∧ w.cell? ⟨b, o + i * 3 + 1, none⟩ = some (.int .i64 l[i].2.1) ∧ w.cell? ⟨b, o + i * 3 + 2, none⟩ = some (.int .i64 l[i].2.2) := by
  rcases h with rfl | h
  · cases h0
  · exact h
theorem owns_evs {w : World} {base e : Nat} {v : Value} {l : List Ev} (h : w.ownsRow base e 3 v l.length (cellsV l)) : ∃ (q : Option Addr) (cap : Nat), v = .slice q l.length cap ∧ EvsIn w q l := by
  have h0 := h
  rcases h.2 with ⟨rfl, h1⟩ | ⟨g, cap, cur, rfl, _, hg, _⟩
  · exact ⟨none, 0, by rw [h1], .inl (List.eq_nil_of_length_eq_zero h1)⟩
  · refine ⟨_, cap, rfl, .inr ⟨g, 0, rfl, (Array.getElem?_eq_some_iff.1 hg).1, fun i hi => ?_⟩⟩
    obtain ⟨a0, a1, a2⟩ := cellsV_at l i hi
    rw [Nat.zero_add, Nat.mul_comm i 3]
    exact ⟨(h0.cellAt (3 * i) (by omega)).trans a0, (h0.cellAt (3 * i + 1) (by omega)).trans a1, (h0.cellAt (3 * i + 2) (by omega)).trans a2⟩

/-! ### One that comes in -/
def EvCells (vs : List Value) : Prop := ∃ (b : Bool) (x y : Int), vs = [.bool b, .int .i64 x, .int .i64 y] ∧ (Lit.int .i64 x).wf = true ∧ (Lit.int .i64 y).wf = true
section
variable {H : Type} {enc : TypeId × Value → H} {P : Program}
theorem ev_struct {w : World} {base : Nat} {sp : Nat → Bool} {held : Bool} {e tb ti : TypeId} {f0 f1 f2 : Field}
    (he : P.underlying e = some (.struct #[f0, f1, f2])) (hb : P.underlying tb = some .bool) (hi : P.underlying ti = some (.int .i64)) (e0 : f0.type = tb) (e1 : f1.type = ti) (e2 : f2.type = ti) (o0 : f0.offset = 0) (o1 : f1.offset = 1) (o2 : f2.offset = 2) (cb : P.cellsOf tb = 1) (ci : P.cellsOf ti = 1) :
    ∀ k (vs : List Value) y, vs.length = 3 → DataW.trod enc P w base sp held k e vs = some y → EvCells vs := by
  intro k vs y hl h
  obtain ⟨xs, k, hk, hxy, _, hxl, hfs⟩ := DataW.trod_struct he h
  match xs, hxl, vs, hl with
  | [y0, y1, y2], _, [v0, v1, v2], _ =>
    have g0 := hfs 0 f0 rfl
    have g1 := hfs 1 f1 rfl
    have g2 := hfs 2 f2 rfl
    rw [e0, o0, cb] at g0
    rw [e1, o1, ci] at g1
    rw [e2, o2, ci] at g2
    obtain ⟨x0, q0, _⟩ := DataW.trod_bool hb (show DataW.trod _ P w base sp held k tb [v0] = some y0 from g0)
    obtain ⟨x1, q1, _, w1⟩ := DataW.trod_int hi (show DataW.trod _ P w base sp held k ti [v1] = some y1 from g1)
    obtain ⟨x2, q2, _, w2⟩ := DataW.trod_int hi (show DataW.trod _ P w base sp held k ti [v2] = some y2 from g2)
    injection q0 with q0
    injection q1 with q1
    injection q2 with q2
    subst q0 q1 q2
    exact ⟨x0, x1, x2, rfl, w1, w2⟩
end
theorem rows_evs {W : World} {p : Option Addr} {len : Nat} (h : RowsAt W EvCells 3 p len) : ∃ l : List Ev, l.length = len ∧ EvsIn W p l ∧ ∀ i, (h : i < l.length) → (Lit.int .i64 l[i].2.1).wf = true ∧ (Lit.int .i64 l[i].2.2).wf = true := by
  rcases h with rfl | ⟨b, o, hp, hb, hc⟩
  · exact ⟨[], rfl, .inl rfl, fun i h => by cases h⟩
  · have each : ∀ i, ∃ e : Ev, i < len → (W.cell? ⟨b, o + i * 3, none⟩ = some (.bool e.1) ∧ W.cell? ⟨b, o + i * 3 + 1, none⟩ = some (.int .i64 e.2.1) ∧ W.cell? ⟨b, o + i * 3 + 2, none⟩ = some (.int .i64 e.2.2)) ∧ (Lit.int .i64 e.2.1).wf = true ∧ (Lit.int .i64 e.2.2).wf = true := by
      intro i
      by_cases hi : i < len
      · obtain ⟨vs, _, ⟨x, y, z, rfl, w1, w2⟩, hv⟩ := hc i hi
        exact ⟨(x, y, z), fun _ => ⟨⟨hv 0 _ rfl, hv 1 _ rfl, hv 2 _ rfl⟩, w1, w2⟩⟩
      · exact ⟨(false, 0, 0), fun h => absurd h hi⟩
    refine ⟨(List.range len).map fun i => Classical.choose (each i), by simp, .inr ⟨b, o, hp, hb, fun i hi => ?_⟩, fun i hi => ?_⟩
    · have hi' : i < len := by simpa using hi
      simp only [List.getElem_map, List.getElem_range]
      exact (Classical.choose_spec (each i) hi').1
    · have hi' : i < len := by simpa using hi
      simp only [List.getElem_map, List.getElem_range]
      exact (Classical.choose_spec (each i) hi').2

/-! ### Are two the same? -/
theorem same_more {l m : List Ev} (hl : l.length = m.length) {i : Nat} (h : ∀ j, (h1 : j < l.length) → (h2 : j < m.length) → j < i → l[j] = m[j]) (h3 : l.length ≤ i) : l = m :=
  List.ext_getElem hl fun j h1 h2 => h j h1 h2 (by omega)
set_option maxRecDepth 100000 in
set_option maxHeartbeats 2000000 in
theorem same_page (p q : Option Addr) (l m : List Ev) (c c' : Nat) (w : World) (hp : EvsIn w p l) (hq : EvsIn w q m) (hm : l.length ≤ 1048576) : Calls Tryd.prog 21 #[.slice p l.length c, .slice q m.length c'] w fun e w' => e = .returned (.bool (decide (l = m))) ∧ Below w.heap.size w w' := by
  by_cases hl : l.length = m.length
  · have HL := Lib.hid hl
    obtain ⟨n, hn⟩ : ∃ n, l.length = n := ⟨_, rfl⟩
    have HN := Lib.hid hn
    rw [← hl, hn]
    rw [hn] at hm
    clear hl hn
    go_enter Tryd.func21, Tryd.ntmps21
    go_wp2
    go_loopw [5] (fun z wr => ∃ i : Nat, i ≤ n ∧ z = .int .i64 i ∧ Hid (∀ j, (h1 : j < l.length) → (h2 : j < m.length) → j < i → l[j] = m[j]) ∧ Below w.heap.size w wr) (fun z _ => n - (intOf z).toNat)
    case atStart => exact ⟨0, Nat.zero_le _, rfl, Lib.hid fun j _ _ h => absurd h (Nat.not_lt_zero j), Below.refl _ _⟩
    case round =>
      obtain ⟨i, hi, rfl, hs, hb⟩ := hrel
      by_cases hlt : i < n
      · have t0 : decide ((i : Int) < (n : Int)) = true := by simp; omega
        have t1 : decide (i < n) = true := by simpa using hlt
        have hil : i < l.length := by rw [HN.out]; exact hlt
        have him : i < m.length := by rw [← HL.out]; exact hil
        obtain ⟨b, o, rfl, hbb, hc⟩ := (hp.below hb).at (by omega)
        obtain ⟨b', o', rfl, hbb', hd⟩ := (hq.below hb).at (by omega)
        obtain ⟨c0, c1, c2⟩ := hc i hil
        obtain ⟨d0, d1, d2⟩ := hd i him
        have hx : ∀ j, j < i + 1 → j < i ∨ j = i := fun j h => by omega
        obtain ⟨⟨x0, x1, x2⟩, hxe⟩ : ∃ x, l[i] = x := ⟨_, rfl⟩
        obtain ⟨⟨y0, y1, y2⟩, hye⟩ : ∃ x, m[i] = x := ⟨_, rfl⟩
        rw [hxe] at c0 c1 c2
        rw [hye] at d0 d1 d2
        simp only at c0 c1 c2 d0 d1 d2
        have HXE := Lib.hid hxe
        have HYE := Lib.hid hye
        clear hc hd hbb hbb' hxe hye
        by_cases e : x0 = y0 ∧ x1 = y1 ∧ x2 = y2
        · obtain ⟨rfl, rfl, rfl⟩ := e
          have NX := Lib.hid (show ∀ j, (h1 : j < l.length) → (h2 : j < m.length) → j < i + 1 → l[j] = m[j] from fun j h1 h2 h3 => by
            rcases hx j h3 with h | h
            · exact hs.out j h1 h2 h
            · subst h; rw [HXE.out, HYE.out])
          clear hs
          have hbd := hb.drew
          go_wp2
          go_region
          go_wp2
          go_roundw
          case rel => exact ⟨i + 1, by omega, by go_num, NX.out, hbd⟩
          case measure => simp [intOf]; omega
        · have F := Lib.hid (show decide (l = m) = false by
            rw [decide_eq_false_iff_not]
            intro h
            subst h
            have h2 := HXE.out.symm.trans HYE.out
            injection h2 with h2 h3
            injection h3 with h3 h4
            exact e ⟨h2, h3, h4⟩)
          have hbd := hb.drew
          clear hs
          by_cases e0 : x0 = y0
          · subst e0
            by_cases e1 : x1 = y1
            · subst e1
              have g2 : (x2 == y2) = false := by rw [beq_eq_false_iff_ne]; intro h; exact e ⟨rfl, rfl, h⟩
              go_wp2
              go_region
              go_wp2
              go_ret
              exact ⟨ret_bool F.out.symm, hbd⟩
            · have g1 : (x1 == y1) = false := by rw [beq_eq_false_iff_ne]; exact e1
              go_wp2
              go_region
              go_wp2
              go_ret
              exact ⟨ret_bool F.out.symm, hbd⟩
          · have g0 : (x0 == y0) = false := by rw [beq_eq_false_iff_ne]; exact e0
            go_wp2
            go_region
            go_wp2
            go_ret
            exact ⟨ret_bool F.out.symm, hbd⟩
      · obtain rfl : i = n := by omega
        have t0 : decide ((i : Int) < (i : Int)) = false := by simp
        have t1 : decide (i < i) = false := by simp
        have F := Lib.hid (show decide (l = m) = true by rw [decide_eq_true_iff]; exact same_more HL.out hs.out (Nat.le_of_eq HN.out))
        go_wp2
        go_ret
        exact ⟨ret_bool F.out.symm, hb⟩
  · have F := Lib.hid (show decide (l = m) = false by rw [decide_eq_false_iff_not]; intro e; exact hl (by rw [e]))
    have g0 : ((l.length : Int) == (m.length : Int)) = false := by rw [beq_eq_false_iff_ne]; omega
    clear hp hq
    generalize l.length = n1 at hl g0 hm ⊢
    generalize m.length = n2 at hl g0 ⊢
    go_enter Tryd.func21, Tryd.ntmps21
    go_wp2
    go_ret
    exact ⟨ret_bool F.out.symm, Below.refl _ _⟩
end Go.Proofs.YtologhgoojkpmaaDoor
