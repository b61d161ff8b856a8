/- What comes in by value: a struct of a bool, an int and a slice; an array of two bool. No condition. -/
import Derived.Test.YtologhgoojkpmaaDoorOpen
import Derived.Test.YtologhgoojkpmaaDoorSame
namespace Go.Proofs.YtologhgoojkpmaaDoor
open Go.RowKit Go.Lib Go.ChangeShapes Go.WideShapes Go.ChangeAt

section
variable {H : Type} {enc : TypeId × Value → H} {P : Program}
/-- A slice among the cells of a struct. -/
theorem rows_cell {w : World} {base fuel : Nat} {sp : Nat → Bool} {held : Bool} {t e : TypeId} {v : Value} {x : DataW H × List MemPlace} (c : Nat) (Q : List Value → Prop)
    (ht : P.underlying t = some (.slice e)) (ce : P.cellsOf e = c) (hc : 0 < c) (hq : ∀ k vs y, vs.length = c → DataW.trod enc P w base sp held k e vs = some y → Q vs)
    (hf : DataW.trod enc P w base sp held fuel t [v] = some x) : ∃ p len cap, v = .slice p len cap ∧ len ≤ maxLen ∧ RowsAt w Q c p len := by
  rcases Go.Deep.open_slice ht hf with ⟨h1, _⟩ | ⟨a', len', cap', m, n, D, Pl, h1, hb, hl, hm, hmm, _, hx⟩
  · injection h1 with h1
    exact ⟨none, 0, 0, h1, Nat.zero_le _, .inl rfl⟩
  · injection h1 with h1
    refine ⟨some a', len', cap', h1, by omega, ?_⟩
    have hlm : len' ≤ m := by rw [hmm]; split <;> omega
    have each : ∀ i, i < len' → ∃ vs : List Value, vs.length = c ∧ Q vs ∧ ∀ (j : Nat) v, vs[j]? = some v → w.cell? (a'.add (i * c + j)) = some v := by
      intro i hil
      obtain ⟨cs', h1, h2⟩ := hx i (by omega)
      rw [ce] at h1
      obtain ⟨_, hlen, hcell⟩ := World.cells?_some h1
      refine ⟨cs', hlen, hq _ _ _ hlen h2, fun j v hj => ?_⟩
      have hjc : j < c := by rw [← hlen]; exact (List.getElem?_eq_some_iff.1 hj).1
      have := hcell j hjc
      rw [Go.Deep.add_add] at this
      rw [this, hj]
    by_cases h0 : len' = 0
    · exact .inl h0
    · right
      obtain ⟨vs, hl0, _, hv⟩ := each 0 (by omega)
      have ca := hv 0 _ (List.getElem?_eq_getElem (by omega))
      rw [show 0 * c + 0 = 0 by omega] at ca
      have ca : w.cell? a' = _ := ca
      have ea := spot_none ca
      refine ⟨a'.block, a'.off, by rw [← ea], block_of_cell ca, fun i hil => ?_⟩
      obtain ⟨vs, h1, h2, h3⟩ := each i hil
      refine ⟨vs, h1, h2, fun j v hj => ?_⟩
      have := h3 j v hj
      rw [ea, Addr.add_mid, ← Nat.add_assoc] at this
      exact this
theorem open_block {w : World} {r : Reach} {b0 base : Nat} {sp : Nat → Bool} {held : Bool} {t tb ti ts te : TypeId} {f0 f1 f2 : Field} {v : Value} {d : DataW H} {ps : List MemPlace} (c : Nat) (Q : List Value → Prop)
    (ht : P.underlying t = some (.struct #[f0, f1, f2])) (hb : P.underlying tb = some .bool) (hi : P.underlying ti = some (.int .i64)) (hs : P.underlying ts = some (.slice te)) (e0 : f0.type = tb) (e1 : f1.type = ti) (e2 : f2.type = ts) (o0 : f0.offset = 0) (o1 : f1.offset = 1) (o2 : f2.offset = 2)
    (cb : P.cellsOf tb = 1) (ci : P.cellsOf ti = 1) (cs : P.cellsOf ts = 1) (hc : P.cellsOf t = 3) (ce : P.cellsOf te = c) (hc0 : 0 < c) (hq : ∀ k vs y, vs.length = c → DataW.trod enc P w base sp held k te vs = some y → Q vs)
    (hval : Value.okWide P w r b0 t v) (hd : DataW.Trod enc P w base sp held t v d ps) :
    ∃ (b : Bool) (x : Int) (p : Option Addr) (len cap : Nat), v = .agg #[.bool b, .int .i64 x, .slice p len cap] ∧ (Lit.int .i64 x).wf = true ∧ len ≤ maxLen ∧ RowsAt w Q c p len := by
  obtain ⟨cs, rfl, hsz, _⟩ : ∃ cs, v = .agg cs ∧ cs.size = P.cellsOf t ∧ Row.okWide P w r b0 t cs := by
    simpa [Value.okWide, ht] using hval
  rw [hc] at hsz
  obtain ⟨fuel, hf⟩ := hd
  obtain ⟨xs, k, hk, hxy, _, hxl, hfs⟩ := DataW.trod_struct ht hf
  obtain ⟨l⟩ := cs
  match l, hsz, xs, hxl with
  | [c0, c1, c2], _, [y0, y1, y2], _ =>
    have g0 := hfs 0 f0 rfl
    have g1 := hfs 1 f1 rfl
    have g2 := hfs 2 f2 rfl
    rw [e0, o0, cb] at g0
    rw [e1, o1, ci] at g1
    rw [e2, o2, cs] at g2
    obtain ⟨x0, q0, _⟩ := DataW.trod_bool hb (show DataW.trod _ P w base sp held k tb [c0] = some y0 from g0)
    obtain ⟨x1, q1, _, w1⟩ := DataW.trod_int hi (show DataW.trod _ P w base sp held k ti [c1] = some y1 from g1)
    obtain ⟨p, len, cap, rfl, hl, hr⟩ := rows_cell c Q hs ce hc0 hq (show DataW.trod _ P w base sp held k ts [c2] = some y2 from g2)
    injection q0 with q0
    injection q1 with q1
    subst q0 q1
    exact ⟨x0, x1, p, len, cap, rfl, w1, hl, hr⟩
theorem open_bools {w : World} {r : Reach} {b0 base : Nat} {sp : Nat → Bool} {held : Bool} {t e : TypeId} {v : Value} {d : DataW H} {ps : List MemPlace}
    (ht : P.underlying t = some (.array 2 e)) (he : P.underlying e = some .bool) (hc : P.cellsOf t = 2) (hce : P.cellsOf e = 1)
    (hval : Value.okWide P w r b0 t v) (hd : DataW.Trod enc P w base sp held t v d ps) :
    ∃ x y : Bool, v = .agg #[.bool x, .bool y] := by
  obtain ⟨cs, rfl, hsz, _⟩ : ∃ cs, v = .agg cs ∧ cs.size = P.cellsOf t ∧ Row.okWide P w r b0 t cs := by
    simpa [Value.okWide, ht] using hval
  rw [hc] at hsz
  obtain ⟨fuel, hf⟩ := hd
  obtain ⟨xs, m, _, _, _, hl, hel⟩ := DataW.trod_array ht hf
  rw [hce] at hel
  obtain ⟨l⟩ := cs
  match l, hsz, xs, hl with
  | [c0, c1], _, [y0, y1], _ =>
    obtain ⟨x0, q0, _⟩ := DataW.trod_bool he (show DataW.trod _ P w base sp held m e [c0] = some y0 from hel 0 (by omega))
    obtain ⟨x1, q1, _⟩ := DataW.trod_bool he (show DataW.trod _ P w base sp held m e [c1] = some y1 from hel 1 (by omega))
    injection q0 with q0
    injection q1 with q1
    subst q0 q1
    exact ⟨x0, x1, rfl⟩
end
end Go.Proofs.YtologhgoojkpmaaDoor
