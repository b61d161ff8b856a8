/- How a slice that comes in is opened, row by row: each row's cells lie in one block and are what the row's reading says. No condition of its own. -/
import Derived.Test.YtknmhemajmiboaaLaws
import Derived.Deep.Slices
import Derived.Deep.MidRow
namespace Go.Proofs.Ytknmhemajmiboaa
open Go.ChangeShapes Go.WideShapes Go.ChangeAt Go.RowKit

theorem spot_none {w : World} {a : Addr} {v : Value} (h : w.cell? a = some v) : a = ⟨a.block, a.off, none⟩ := by
  obtain ⟨b, o, s⟩ := a
  cases s with
  | none => rfl
  | some x => unfold World.cell? at h; split at h <;> simp at h
theorem block_of_cell {w : World} {a : Addr} {v : Value} (h : w.cell? a = some v) : a.block < w.heap.size := World.block_lt_of_cell? w a h

/-- The rows of a slice: each has c cells, of which Q holds. -/
def RowsAt (W : World) (Q : List Value → Prop) (c : Nat) (p : Option Addr) (len : Nat) : Prop :=
  len = 0 ∨ ∃ b o, p = some ⟨b, o, none⟩ ∧ b < W.heap.size ∧ ∀ i, i < len → ∃ vs : List Value, vs.length = c ∧ Q vs ∧ ∀ (j : Nat) v, vs[j]? = some v → W.cell? ⟨b, o + i * c + j, none⟩ = some v
section
variable {H : Type} {enc : TypeId × Value → H} {P : Program}
theorem open_rows {w : World} {r : Reach} {b0 base : Nat} {sp : Nat → Bool} {held : Bool} {t e : TypeId} {v : Value} {d : DataW H} {ps : List MemPlace} (c : Nat) (Q : List Value → Prop)
    (ht : P.underlying t = some (.slice e)) (ce : P.cellsOf e = c) (hc : 0 < c) (hq : ∀ k vs y, vs.length = c → DataW.trod enc P w base sp held k e vs = some y → Q vs)
    (hval : Value.okWide P w r b0 t v) (hd : DataW.Trod enc P w base sp held t v d ps) : ∃ p len cap, v = .slice p len cap ∧ len ≤ maxLen ∧ RowsAt w Q c p len := by
  obtain ⟨a, len, cap, rfl⟩ := okWide_slice ht hval
  obtain ⟨fuel, hf⟩ := hd
  refine ⟨a, len, cap, rfl, ?_⟩
  rcases Go.Deep.open_slice ht hf with ⟨h1, _⟩ | ⟨a', len', cap', m, n, D, Pl, h1, hb, hl, hm, hmm, _, hx⟩
  · simp [Value.cells] at h1
    obtain ⟨rfl, rfl, rfl⟩ := h1
    exact ⟨Nat.zero_le _, .inl rfl⟩
  · simp [Value.cells] at h1
    obtain ⟨rfl, rfl, rfl⟩ := h1
    refine ⟨by omega, ?_⟩
    have hlm : len ≤ m := by rw [hmm]; split <;> omega
    have each : ∀ i, i < len → ∃ vs : List Value, vs.length = c ∧ Q vs ∧ ∀ (j : Nat) v, vs[j]? = some v → w.cell? (a'.add (i * c + j)) = some v := by
      intro i hil
      obtain ⟨cs', h1, h2⟩ := hx i (by omega)
      rw [ce] at h1
      obtain ⟨_, hlen, hcell⟩ := World.cells?_some h1
      refine ⟨cs', hlen, hq _ _ _ hlen h2, fun j v hj => ?_⟩
      have hjc : j < c := by rw [← hlen]; exact (List.getElem?_eq_some_iff.1 hj).1
      have := hcell j hjc
      rw [Go.Deep.add_add] at this
      rw [this, hj]
    by_cases h0 : len = 0
    · exact .inl h0
    · right
      obtain ⟨vs, hl0, _, hv⟩ := each 0 (by omega)
      have ca := hv 0 _ (List.getElem?_eq_getElem (by omega))
      rw [show 0 * c + 0 = 0 by omega] at ca
      have ca : w.cell? a' = _ := ca
      have ea := spot_none ca
      refine ⟨a'.block, a'.off, by rw [← ea], block_of_cell ca, fun i hil => ?_⟩
      obtain ⟨vs, h1, h2, h3⟩ := each i hil
      refine ⟨vs, h1, h2, fun j v hj => ?_⟩
      have := h3 j v hj
      rw [ea, Addr.add_mid, ← Nat.add_assoc] at this
      exact this

/-- Two int. -/
def TwoInts (vs : List Value) : Prop := ∃ x y : Int, vs = [.int .i64 x, .int .i64 y] ∧ (Lit.int .i64 x).wf = true ∧ (Lit.int .i64 y).wf = true
theorem two_struct {w : World} {base : Nat} {sp : Nat → Bool} {held : Bool} {e ti : TypeId} {f0 f1 : Field}
    (he : P.underlying e = some (.struct #[f0, f1])) (hi : P.underlying ti = some (.int .i64)) (e0 : f0.type = ti) (e1 : f1.type = ti) (o0 : f0.offset = 0) (o1 : f1.offset = 1) (ci : P.cellsOf ti = 1) :
    ∀ k (vs : List Value) y, vs.length = 2 → DataW.trod enc P w base sp held k e vs = some y → TwoInts vs := by
  intro k vs y hl h
  obtain ⟨xs, k, hk, hxy, _, hxl, hfs⟩ := DataW.trod_struct he h
  match xs, hxl, vs, hl with
  | [y0, y1], _, [v0, v1], _ =>
    have g0 := hfs 0 f0 rfl
    have g1 := hfs 1 f1 rfl
    rw [e0, o0, ci] at g0
    rw [e1, o1, ci] at g1
    obtain ⟨x0, q0, _, w0⟩ := DataW.trod_int hi (show DataW.trod _ P w base sp held k ti [v0] = some y0 from g0)
    obtain ⟨x1, q1, _, w1⟩ := DataW.trod_int hi (show DataW.trod _ P w base sp held k ti [v1] = some y1 from g1)
    injection q0 with q0
    injection q1 with q1
    subst q0 q1
    exact ⟨x0, x1, rfl, w0, w1⟩
theorem two_array {w : World} {base : Nat} {sp : Nat → Bool} {held : Bool} {e ti : TypeId}
    (he : P.underlying e = some (.array 2 ti)) (hi : P.underlying ti = some (.int .i64)) (ci : P.cellsOf ti = 1) :
    ∀ k (vs : List Value) y, vs.length = 2 → DataW.trod enc P w base sp held k e vs = some y → TwoInts vs := by
  intro k vs y hl h
  obtain ⟨xs, m, _, _, _, hxl, hel⟩ := DataW.trod_array he h
  rw [ci] at hel
  match xs, hxl, vs, hl with
  | [y0, y1], _, [v0, v1], _ =>
    obtain ⟨x0, q0, _, w0⟩ := DataW.trod_int hi (show DataW.trod _ P w base sp held m ti [v0] = some y0 from hel 0 (by omega))
    obtain ⟨x1, q1, _, w1⟩ := DataW.trod_int hi (show DataW.trod _ P w base sp held m ti [v1] = some y1 from hel 1 (by omega))
    injection q0 with q0
    injection q1 with q1
    subst q0 q1
    exact ⟨x0, x1, rfl, w0, w1⟩
end
end Go.Proofs.Ytknmhemajmiboaa
