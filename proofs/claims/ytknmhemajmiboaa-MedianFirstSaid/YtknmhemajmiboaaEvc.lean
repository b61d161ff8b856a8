/- Events as they lie: a struct of a bool and two int, its cells, whether it is right, one that comes in, a slice of the call's own that grows by one. No condition. -/
import Derived.Test.YtknmhemajmiboaaNums
import Derived.Test.YtknmhemajmiboaaRegion
import Derived.Test.YtknmhemajmiboaaRes
import Derived.Test.YtknmhemajmiboaaOpen
import Derived.WalkMore
import Derived.Test.YtknmhemajmiboaaChecked
import Derived.Lib.Hide
import Derived.Below
import Derived.WalkKit
import Derived.OwnWalk
import Derived.IntWalk
import Derived.Laws.ResultCell
import Derived.Laws.Rows
import Derived.Laws.OwnMore
import Derived.Deep.AppendLies
import Derived.Maps.AppendAt
namespace Go.Proofs.Ytknmhemajmiboaa
open Go.RowKit Go.Lib Go.ChangeShapes Go.WideShapes Go.ChangeAt

/-- Is an event right? -/
def rightT (run level : Int) : Bool := decide (0 ≤ run) && decide (run ≤ 63) && decide (-127 ≤ level) && decide (level ≤ 127) && !(level == 0)
theorem rightT_iff {run level : Int} : rightT run level = true ↔ 0 ≤ run ∧ run ≤ 63 ∧ -127 ≤ level ∧ level ≤ 127 ∧ level ≠ 0 := by
  unfold rightT
  simp [Bool.and_eq_true, and_assoc]

/-! ### Their cells -/
def evV (last : Bool) (run level : Int) : Value := .agg #[.bool last, .int .i64 run, .int .i64 level]
def evVal (x : Bool × Nat × Int) : Value := .agg #[.bool x.1, .int .i64 (x.2.1 : Int), .int .i64 x.2.2]
/-! ### A slice of the call's own -/
theorem wp_append_evA {P : Program} {w : World} {ops : Array Oper} {rest : List Oper} {o : Oper} {a : Act} {Q : Exit → Act → World → Prop} {sl x : Operand} {t base e c : Nat} {i : TypeInfo} {z v : Value} {n : Nat} {xs : List Value} {K : Nat} {y0 : Bool} {y1 y2 : Int}
    (hgd : o.guard = none) (ho : o.op = .call { callee := .builtin .append, args := #[sl, x], argTypes := #[t, t] })
    (ht : P.underlying t = some (.slice e)) (hi : P.info? e = some i) (hz : i.zero = some z) (hzs : z.cells.size = 3) (hsize : i.size = 3) (hby : i.bytes = 24)
    (hs : a.eval sl = v) (hown : w.ownsRow base e 3 v n xs) (hx : a.eval x = .slice (some ⟨K, 0, none⟩) 1 c) (c0 : w.cell? ⟨K, 0, none⟩ = some (.bool y0)) (c1 : w.cell? ⟨K, 1, none⟩ = some (.int .i64 y1)) (c2 : w.cell? ⟨K, 2, none⟩ = some (.int .i64 y2)) (hn : n ≤ 1048576) (hbase : base ≤ w.heap.size)
    (h : ∀ v' w', w'.ownsRow base e 3 v' (n + 1) (xs ++ [.bool y0, .int .i64 y1, .int .i64 y2]) → w.grownBy w' v.ownBlock → (v'.ownBlock = v.ownBlock ∨ v'.ownBlock = some w.heap.size) → wpList P ops Q rest (a.put o.dst v') w') : wpList P ops Q (o :: rest) a w :=
  wpList_append_own_at w hgd sl x t ho base e i z 3 24 ht hi hz hsize hby hzs (by decide) v n xs hs hown ⟨K, 0, none⟩ 1 c [.bool y0, .int .i64 y1, .int .i64 y2] hx rfl
    (fun j u hj => by
      match j, hj with
      | 0, hj => cases hj; exact c0
      | 1, hj => cases hj; exact c1
      | 2, hj => cases hj; exact c2)
    (by intro u hu; simp only [List.mem_cons, List.not_mem_nil, or_false] at hu; rcases hu with rfl | rfl | rfl <;> rfl) (by unfold maxLen; omega) (by omega) hbase
    fun v' w' h1 h2 _ h4 => h v' w' h1 h2 h4
/-- An event that comes in by value. -/
theorem open_ev {H : Type} {enc : TypeId × Value → H} {P : Program} {w : World} {r : Reach} {b0 base : Nat} {sp : Nat → Bool} {held : Bool} {t tb ti : TypeId} {f0 f1 f2 : Field} {v : Value} {d : DataW H} {ps : List MemPlace}
    (ht : P.underlying t = some (.struct #[f0, f1, f2])) (hb : P.underlying tb = some .bool) (hi : P.underlying ti = some (.int .i64)) (e0 : f0.type = tb) (e1 : f1.type = ti) (e2 : f2.type = ti) (o0 : f0.offset = 0) (o1 : f1.offset = 1) (o2 : f2.offset = 2)
    (cb : P.cellsOf tb = 1) (ci : P.cellsOf ti = 1) (hc : P.cellsOf t = 3) (hval : Value.okWide P w r b0 t v) (hd : DataW.Trod enc P w base sp held t v d ps) :
    ∃ (l : Bool) (x y : Int), v = .agg #[.bool l, .int .i64 x, .int .i64 y] ∧ (Lit.int .i64 x).wf = true ∧ (Lit.int .i64 y).wf = true := by
  obtain ⟨cs, rfl, hsz, _⟩ : ∃ cs, v = .agg cs ∧ cs.size = P.cellsOf t ∧ Row.okWide P w r b0 t cs := by
    simpa [Value.okWide, ht] using hval
  rw [hc] at hsz
  obtain ⟨fuel, hf⟩ := hd
  obtain ⟨xs, k, hk, hxy, _, hxl, hfs⟩ := DataW.trod_struct ht hf
  obtain ⟨l⟩ := cs
  match l, hsz, xs, hxl with
  | [c0, c1, c2], _, [y0, y1, y2], _ =>
    have g0 := hfs 0 f0 rfl
    have g1 := hfs 1 f1 rfl
    have g2 := hfs 2 f2 rfl
    rw [e0, o0, cb] at g0
    rw [e1, o1, ci] at g1
    rw [e2, o2, ci] at g2
    obtain ⟨x0, q0, _⟩ := DataW.trod_bool hb (show DataW.trod _ P w base sp held k tb [c0] = some y0 from g0)
    obtain ⟨x1, q1, _, w1⟩ := DataW.trod_int hi (show DataW.trod _ P w base sp held k ti [c1] = some y1 from g1)
    obtain ⟨x2, q2, _, w2⟩ := DataW.trod_int hi (show DataW.trod _ P w base sp held k ti [c2] = some y2 from g2)
    injection q0 with q0
    injection q1 with q1
    injection q2 with q2
    subst q0 q1 q2
    exact ⟨x0, x1, x2, rfl, w1, w2⟩
end Go.Proofs.Ytknmhemajmiboaa
