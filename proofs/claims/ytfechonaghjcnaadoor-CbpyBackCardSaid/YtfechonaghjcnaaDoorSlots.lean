/- How codes and rows lie in memory: slices that come in, slices of the call's own. No condition of its own. -/
import Derived.Test.YtfechonaghjcnaaDoorLibs
import Derived.Test.YtfechonaghjcnaaDoorOpen
import Derived.Test.YtfechonaghjcnaaDoorRegion
import Derived.OwnWalk
namespace Go.Proofs.YtfechonaghjcnaaDoor
open Go.ChangeShapes Go.WideShapes Go.ChangeAt Go.RowKit

theorem below_drewN {B : Nat} {w x : World} (h : Below B w x) (n : Nat) : Below B w (x.drewN n) := ⟨h.os, h.tape, h.output, h.size, h.block⟩
/-- Codes, one behind the other, from an address on. -/
def Cds (w : World) (p : Option Addr) (l : List (ByteArray × Int)) : Prop :=
  l = [] ∨ ∃ b o, p = some ⟨b, o, none⟩ ∧ b < w.heap.size ∧ ∀ i, (h : i < l.length) → w.cell? ⟨b, o + i * 2, none⟩ = some (.string l[i].1) ∧ w.cell? ⟨b, o + i * 2 + 1, none⟩ = some (.int .i64 l[i].2)
/-- Texts, one behind the other. -/
def Strs (w : World) (p : Option Addr) (l : List ByteArray) : Prop :=
  l = [] ∨ ∃ b o, p = some ⟨b, o, none⟩ ∧ b < w.heap.size ∧ ∀ i, (h : i < l.length) → w.cell? ⟨b, o + i, none⟩ = some (.string l[i])
theorem Cds.below {w w' : World} {p : Option Addr} {l : List (ByteArray × Int)} (h : Cds w p l) (hb : Below w.heap.size w w') : Cds w' p l := by
  rcases h with h | ⟨b, o, h1, h2, h3⟩
  · exact .inl h
  · refine .inr ⟨b, o, h1, Nat.lt_of_lt_of_le h2 hb.size, fun i hi => ?_⟩
    rw [hb.cell (p := ⟨b, o + i * 2, none⟩) h2, hb.cell (p := ⟨b, o + i * 2 + 1, none⟩) h2]
    exact h3 i hi
theorem Strs.below {w w' : World} {p : Option Addr} {l : List ByteArray} (h : Strs w p l) (hb : Below w.heap.size w w') : Strs w' p l := by
  rcases h with h | ⟨b, o, h1, h2, h3⟩
  · exact .inl h
  · refine .inr ⟨b, o, h1, Nat.lt_of_lt_of_le h2 hb.size, fun i hi => ?_⟩
    rw [hb.cell (p := ⟨b, o + i, none⟩) h2]
    exact h3 i hi
theorem Cds.at {w : World} {p : Option Addr} {l : List (ByteArray × Int)} (h : Cds w p l) (h0 : 0 < l.length) :
    ∃ b o, p = some ⟨b, o, none⟩ ∧ b < w.heap.size ∧ ∀ i, (h : i < l.length) → w.cell? ⟨b, o + i * 2, none⟩ = some (.string l[i].1) ∧ w.cell? ⟨b, o + i * 2 + 1, none⟩ = some (.int .i64 l[i].2) := by
  rcases h with rfl | h
  · cases h0
  · exact h
theorem Strs.at {w : World} {p : Option Addr} {l : List ByteArray} (h : Strs w p l) (h0 : 0 < l.length) :
    ∃ b o, p = some ⟨b, o, none⟩ ∧ b < w.heap.size ∧ ∀ i, (h : i < l.length) → w.cell? ⟨b, o + i, none⟩ = some (.string l[i]) := by
  rcases h with rfl | h
  · cases h0
  · exact h
theorem Cds.take {w : World} {p : Option Addr} {l : List (ByteArray × Int)} (h : Cds w p l) (k : Nat) : Cds w p (l.take k) := by
  rcases h with rfl | ⟨b, o, h1, h2, h3⟩
  · exact .inl (by simp)
  · refine .inr ⟨b, o, h1, h2, fun i hi => ?_⟩
    rw [List.getElem_take]
    exact h3 i (by rw [List.length_take] at hi; omega)
theorem Cds.drop {w : World} {b o : Nat} {l : List (ByteArray × Int)} (h : Cds w (some ⟨b, o, none⟩) l) (k : Nat) : Cds w (some ⟨b, o + k * 2, none⟩) (l.drop k) := by
  rcases h with rfl | ⟨b', o', h1, h2, h3⟩
  · exact .inl (by simp)
  · cases h1
    refine .inr ⟨b, o + k * 2, rfl, h2, fun i hi => ?_⟩
    have := h3 (k + i) (by rw [List.length_drop] at hi; omega)
    rw [List.getElem_drop, show o + k * 2 + i * 2 = o + (k + i) * 2 by omega]
    exact this

/-! ### Slices of the call's own -/
def codeCells (l : List (ByteArray × Int)) : List Value := l.flatMap encC
def strCells (l : List ByteArray) : List Value := l.map .string
theorem codeCells_snoc (l : List (ByteArray × Int)) (x : ByteArray × Int) : codeCells (l ++ [x]) = codeCells l ++ [.string x.1, .int .i64 x.2] := by simp [codeCells, encC]
theorem strCells_snoc (l : List ByteArray) (x : ByteArray) : strCells (l ++ [x]) = strCells l ++ [.string x] := by simp [strCells]
theorem codeCells_length (l : List (ByteArray × Int)) : (codeCells l).length = l.length * 2 := by
  induction l with
  | nil => rfl
  | cons x l ih =>
    have e : codeCells (x :: l) = encC x ++ codeCells l := by simp [codeCells]
    rw [e, List.length_append, ih, List.length_cons, encC, List.length_cons, List.length_cons, List.length_nil]; omega
theorem codeCells_get (l : List (ByteArray × Int)) (j : Nat) (h : j < l.length) : (codeCells l)[j * 2]? = some (.string l[j].1) ∧ (codeCells l)[j * 2 + 1]? = some (.int .i64 l[j].2) := by
  induction l generalizing j with
  | nil => exact absurd h (Nat.not_lt_zero j)
  | cons q l ih =>
    have e : codeCells (q :: l) = .string q.1 :: .int .i64 q.2 :: codeCells l := by simp [codeCells, encC]
    rw [e]
    cases j with
    | zero => exact ⟨rfl, rfl⟩
    | succ j =>
      rw [show (j + 1) * 2 = j * 2 + 1 + 1 by omega, show j * 2 + 1 + 1 + 1 = (j * 2 + 1) + 1 + 1 by omega, List.getElem?_cons_succ, List.getElem?_cons_succ, List.getElem?_cons_succ, List.getElem?_cons_succ]
      exact ih j (by simpa using h)
theorem codeCells_one (l : List (ByteArray × Int)) : ∀ u ∈ codeCells l, u.oneCell' = true := by
  intro u hu
  obtain ⟨x, _, hx⟩ := List.mem_flatMap.1 hu
  exact enc_one x u hx
theorem owns_codes {w : World} {base e : Nat} {v : Value} {l : List (ByteArray × Int)} (h : w.ownsRow base e 2 v l.length (codeCells l)) :
    ∃ (q : Option Addr) (cap : Nat), v = .slice q l.length cap ∧ Cds w q l := by
  have h0 := h
  rcases h.2 with ⟨rfl, h1⟩ | ⟨g, cap, cur, rfl, _, hg, _⟩
  · exact ⟨none, 0, by rw [h1], .inl (List.eq_nil_of_length_eq_zero h1)⟩
  · refine ⟨_, cap, rfl, .inr ⟨g, 0, rfl, (Array.getElem?_eq_some_iff.1 hg).1, fun i hi => ⟨?_, ?_⟩⟩⟩
    · have := World.ownsRow.cells (g := g) h0 rfl (i * 2) _ (codeCells_get l i hi).1
      rwa [Addr.add_mid] at this
    · have := World.ownsRow.cells (g := g) h0 rfl (i * 2 + 1) _ (codeCells_get l i hi).2
      rwa [Addr.add_mid] at this
theorem owns_strs {w : World} {base e : Nat} {v : Value} {l : List ByteArray} (h : w.ownsRow base e 1 v l.length (strCells l)) :
    ∃ (q : Option Addr) (cap : Nat), v = .slice q l.length cap ∧ Strs w q l := by
  have h0 := h
  rcases h.2 with ⟨rfl, h1⟩ | ⟨g, cap, cur, rfl, _, hg, _⟩
  · exact ⟨none, 0, by rw [h1], .inl (List.eq_nil_of_length_eq_zero h1)⟩
  · refine ⟨_, cap, rfl, .inr ⟨g, 0, rfl, (Array.getElem?_eq_some_iff.1 hg).1, fun i hi => ?_⟩⟩
    have := World.ownsRow.cells (g := g) h0 rfl i (.string l[i]) (by simp [strCells, hi])
    rwa [Addr.add_mid] at this
theorem owns_fresh {w : World} {base e size n : Nat} {v : Value} {xs : List Value} (h : w.ownsRow base e size v n xs) : ∀ k, v.ownBlock = some k → base ≤ k := by
  intro k hk
  rcases h.2 with ⟨rfl, _⟩ | ⟨g, cap, cur, rfl, hg, _⟩
  · cases hk
  · cases hk; exact hg

/-- Two slices of the call's own, of unlike rows, lie in unlike blocks. -/
theorem owns_apart {w w' : World} {base e e' size size' n n' : Nat} {v v' : Value} {xs xs' : List Value} (h : w.ownsRow base e size v n xs) (h' : w.ownsRow base e' size' v' n' xs') (hne : e ≠ e') (hg : w.grownBy w' v'.ownBlock) : w'.ownsRow base e size v n xs := by
  refine h.kept hg ?_
  cases hv : v.ownBlock with
  | none => exact .inl rfl
  | some k =>
    right
    intro hk
    rcases h.2 with ⟨rfl, _⟩ | ⟨g, cap, cur, rfl, _, hgg, _⟩
    · cases hv
    rcases h'.2 with ⟨rfl, _⟩ | ⟨g', cap', cur', rfl, _, hgg', _⟩
    · cases hk
    cases hv
    injection hk with hk
    obtain rfl : g = g' := hk
    rw [hgg] at hgg'
    injection hgg' with hgg'
    injection hgg' with _ hgg'
    exact hne hgg'
/-- 'append' of one code, which lies in a block of its own. -/
theorem wp_append_code {P : Program} {w : World} {ops : Array Oper} {rest : List Oper} {o : Oper} {a : Act} {Q : Exit → Act → World → Prop} {sl x : Operand} {t base e c : Nat} {i : TypeInfo} {z v : Value} {n : Nat} {xs : List Value} {K : Nat} {y0 : ByteArray} {y1 : Int}
    (hgd : o.guard = none) (ho : o.op = .call { callee := .builtin .append, args := #[sl, x], argTypes := #[t, t] })
    (ht : P.underlying t = some (.slice e)) (hi : P.info? e = some i) (hz : i.zero = some z) (hzs : z.cells.size = 2) (hsize : i.size = 2) (hby : i.bytes = 24)
    (hs : a.eval sl = v) (hown : w.ownsRow base e 2 v n xs) (hx : a.eval x = .slice (some ⟨K, 0, none⟩) 1 c) (c0 : w.cell? ⟨K, 0, none⟩ = some (.string y0)) (c1 : w.cell? ⟨K, 1, none⟩ = some (.int .i64 y1)) (hn : n ≤ 1048576) (hbase : base ≤ w.heap.size)
    (h : ∀ v' w', w'.ownsRow base e 2 v' (n + 1) (xs ++ [.string y0, .int .i64 y1]) → w.grownBy w' v.ownBlock → wpList P ops Q rest (a.put o.dst v') w') : wpList P ops Q (o :: rest) a w :=
  wpList_append_own w hgd sl x t ho base e i z 2 24 ht hi hz hsize hby hzs (by decide) v n xs hs hown ⟨K, 0, none⟩ 1 c [.string y0, .int .i64 y1] hx rfl
    (fun j u hj => by
      match j, hj with
      | 0, hj => cases hj; exact c0
      | 1, hj => cases hj; exact c1)
    (by intro u hu; simp only [List.mem_cons, List.not_mem_nil, or_false] at hu; rcases hu with rfl | rfl <;> rfl) (by unfold maxLen; omega) (by omega) hbase
    fun v' w' h1 h2 _ => h v' w' h1 h2
/-- 'append' of one text, which lies in a block of its own. -/
theorem wp_append_str {P : Program} {w : World} {ops : Array Oper} {rest : List Oper} {o : Oper} {a : Act} {Q : Exit → Act → World → Prop} {sl x : Operand} {t base e c : Nat} {i : TypeInfo} {z v : Value} {n : Nat} {xs : List Value} {K : Nat} {y0 : ByteArray}
    (hgd : o.guard = none) (ho : o.op = .call { callee := .builtin .append, args := #[sl, x], argTypes := #[t, t] })
    (ht : P.underlying t = some (.slice e)) (hi : P.info? e = some i) (hz : i.zero = some z) (hzs : z.cells.size = 1) (hsize : i.size = 1) (hby : i.bytes = 16)
    (hs : a.eval sl = v) (hown : w.ownsRow base e 1 v n xs) (hx : a.eval x = .slice (some ⟨K, 0, none⟩) 1 c) (c0 : w.cell? ⟨K, 0, none⟩ = some (.string y0)) (hn : n ≤ 1048576) (hbase : base ≤ w.heap.size)
    (h : ∀ v' w', w'.ownsRow base e 1 v' (n + 1) (xs ++ [.string y0]) → w.grownBy w' v.ownBlock → wpList P ops Q rest (a.put o.dst v') w') : wpList P ops Q (o :: rest) a w :=
  wpList_append_own w hgd sl x t ho base e i z 1 16 ht hi hz hsize hby hzs (by decide) v n xs hs hown ⟨K, 0, none⟩ 1 c [.string y0] hx rfl
    (fun j u hj => by
      match j, hj with
      | 0, hj => cases hj; exact c0)
    (by intro u hu; rw [List.mem_singleton] at hu; subst hu; rfl) (by unfold maxLen; omega) (by omega) hbase
    fun v' w' h1 h2 _ => h v' w' h1 h2
theorem info_str : (Tryd.prog.info? 9).map (fun i => (i.zero, i.size, i.bytes)) = some (some (.string ⟨#[]⟩), 1, 16) := by kernel_rfl

/-! ### Slices that come in -/
/-- A text and an int. -/
def CodeVals (vs : List Value) : Prop := ∃ (s : ByteArray) (x : Int), vs = [.string s, .int .i64 x] ∧ s.size ≤ maxLen ∧ (Lit.int .i64 x).wf = true
theorem rows_codes {w : World} {p : Option Addr} {len : Nat} (h : RowsAt w CodeVals 2 p len) : ∃ l : List (ByteArray × Int), l.length = len ∧ Cds w p l ∧ ∀ x ∈ l, x.1.size ≤ maxLen ∧ (Lit.int .i64 x.2).wf = true := by
  rcases h with rfl | ⟨b, o, rfl, hb, hv⟩
  · exact ⟨[], rfl, .inl rfl, fun _ h => by cases h⟩
  · suffices ∀ n, n ≤ len → ∃ l : List (ByteArray × Int), l.length = n ∧ (∀ i, (h : i < l.length) → w.cell? ⟨b, o + i * 2, none⟩ = some (.string l[i].1) ∧ w.cell? ⟨b, o + i * 2 + 1, none⟩ = some (.int .i64 l[i].2)) ∧ ∀ x ∈ l, x.1.size ≤ maxLen ∧ (Lit.int .i64 x.2).wf = true by
      obtain ⟨l, h1, h2, h3⟩ := this len (Nat.le_refl _)
      exact ⟨l, h1, .inr ⟨b, o, rfl, hb, h2⟩, h3⟩
    intro n
    induction n with
    | zero => exact fun _ => ⟨[], rfl, ⟨fun i hi => absurd hi (Nat.not_lt_zero i), fun _ h => by cases h⟩⟩
    | succ n ih =>
      intro hn
      obtain ⟨l, h1, h2, h3⟩ := ih (by omega)
      obtain ⟨vs, _, ⟨s, x, rfl, hs, hx⟩, hc⟩ := hv n (by omega)
      refine ⟨l ++ [(s, x)], by simp [h1], fun i hi => ?_, ?_⟩
      · by_cases hin : i < l.length
        · rw [List.getElem_append_left hin]
          exact h2 i hin
        · obtain rfl : i = l.length := by rw [List.length_append, List.length_singleton] at hi; omega
          rw [List.getElem_concat_length]
          · rw [h1]
            exact ⟨hc 0 _ rfl, hc 1 _ rfl⟩
          · rfl
      · intro y hy
        rcases List.mem_append.1 hy with hy | hy
        · exact h3 y hy
        · rw [List.mem_singleton] at hy
          subst hy
          exact ⟨hs, hx⟩
section
variable {H : Type} {enc : TypeId × Value → H} {P : Program}
theorem code_struct {w : World} {base : Nat} {sp : Nat → Bool} {held : Bool} {e ts ti : TypeId} {f0 f1 : Field}
    (he : P.underlying e = some (.struct #[f0, f1])) (hstr : P.underlying ts = some .string) (hi : P.underlying ti = some (.int .i64)) (e0 : f0.type = ts) (e1 : f1.type = ti) (o0 : f0.offset = 0) (o1 : f1.offset = 1) (cs : P.cellsOf ts = 1) (ci : P.cellsOf ti = 1) :
    ∀ k (vs : List Value) y, vs.length = 2 → DataW.trod enc P w base sp held k e vs = some y → CodeVals vs := by
  intro k vs y hl h
  obtain ⟨xs, k, hk, hxy, _, hxl, hfs⟩ := DataW.trod_struct he h
  match xs, hxl, vs, hl with
  | [y0, y1], _, [v0, v1], _ =>
    have g0 := hfs 0 f0 rfl
    have g1 := hfs 1 f1 rfl
    rw [e0, o0, cs] at g0
    rw [e1, o1, ci] at g1
    obtain ⟨x0, q0, _, w0⟩ := DataW.trod_string hstr (show DataW.trod _ P w base sp held k ts [v0] = some y0 from g0)
    obtain ⟨x1, q1, _, w1⟩ := DataW.trod_int hi (show DataW.trod _ P w base sp held k ti [v1] = some y1 from g1)
    injection q0 with q0
    injection q1 with q1
    subst q0 q1
    exact ⟨x0, x1, rfl, w0, w1⟩
/-- A byte. -/
def ByteVal (vs : List Value) : Prop := ∃ x : Nat, vs = [.int .u8 (x : Int)] ∧ x < 256
theorem byte_one {w : World} {base : Nat} {sp : Nat → Bool} {held : Bool} {e : TypeId} (he : P.underlying e = some (.int .u8)) :
    ∀ k (vs : List Value) y, vs.length = 1 → DataW.trod enc P w base sp held k e vs = some y → ByteVal vs := by
  intro k vs y hl h
  match vs, hl with
  | [v0], _ =>
    obtain ⟨x0, q0, _, w0⟩ := DataW.trod_int he h
    injection q0 with q0
    subst q0
    have h' : (decide (IntKind.u8.min ≤ x0) && decide (x0 ≤ IntKind.u8.max)) = true := w0
    rw [Bool.and_eq_true, decide_eq_true_iff, decide_eq_true_iff] at h'
    have e1 : IntKind.u8.min = 0 := rfl
    have e2 : IntKind.u8.max = 255 := rfl
    rw [e1, e2] at h'
    exact ⟨x0.toNat, by rw [Int.toNat_of_nonneg h'.1], by omega⟩
end
end Go.Proofs.YtfechonaghjcnaaDoor
