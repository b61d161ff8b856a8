/- How texts lie in memory, one behind the other: slices that come in, slices of the call's own; a code's cells. No condition of its own. -/
import Derived.Test.YtologhgoojkpmaaDoorCodes
import Derived.Test.YtologhgoojkpmaaDoorOpen
import Derived.Test.YtologhgoojkpmaaDoorRegion
import Derived.WalkKit
import Derived.OwnWalk
import Derived.BigQuiet
import Derived.Test.YtologhgoojkpmaaDoorRef2
namespace Go.Proofs.YtologhgoojkpmaaDoor
open Go.ChangeShapes Go.WideShapes Go.ChangeAt Go.RowKit

/-- A code: a row and a symbol, as they lie. -/
def encC (x : ByteArray × Int) : List Value := [.string x.1, .int .i64 x.2]
def rowC (x : ByteArray × Int) : List UInt8 := x.1.data.toList
theorem enc_one (x : ByteArray × Int) : ∀ v ∈ encC x, v.oneCell' = true := by
  intro v hv
  simp only [encC, List.mem_cons, List.not_mem_nil, or_false] at hv
  rcases hv with rfl | rfl <;> rfl
theorem below_drewN {B : Nat} {w x : World} (h : Below B w x) (n : Nat) : Below B w (x.drewN n) := ⟨h.os, h.tape, h.output, h.size, h.block⟩
/-- Texts, one behind the other. -/
def Strs (w : World) (p : Option Addr) (l : List ByteArray) : Prop :=
  l = [] ∨ ∃ b o, p = some ⟨b, o, none⟩ ∧ b < w.heap.size ∧ ∀ i, (h : i < l.length) → w.cell? ⟨b, o + i, none⟩ = some (.string l[i])
theorem Strs.below {w w' : World} {p : Option Addr} {l : List ByteArray} (h : Strs w p l) (hb : Below w.heap.size w w') : Strs w' p l := by
  rcases h with h | ⟨b, o, h1, h2, h3⟩
  · exact .inl h
  · refine .inr ⟨b, o, h1, Nat.lt_of_lt_of_le h2 hb.size, fun i hi => ?_⟩
    rw [hb.cell (p := ⟨b, o + i, none⟩) h2]
    exact h3 i hi
theorem Strs.at {w : World} {p : Option Addr} {l : List ByteArray} (h : Strs w p l) (h0 : 0 < l.length) :
    ∃ b o, p = some ⟨b, o, none⟩ ∧ b < w.heap.size ∧ ∀ i, (h : i < l.length) → w.cell? ⟨b, o + i, none⟩ = some (.string l[i]) := by
  rcases h with rfl | h
  · cases h0
  · exact h
def strCells (l : List ByteArray) : List Value := l.map .string
theorem strCells_snoc (l : List ByteArray) (x : ByteArray) : strCells (l ++ [x]) = strCells l ++ [.string x] := by simp [strCells]
theorem owns_strs {w : World} {base e : Nat} {v : Value} {l : List ByteArray} (h : w.ownsRow base e 1 v l.length (strCells l)) :
    ∃ (q : Option Addr) (cap : Nat), v = .slice q l.length cap ∧ Strs w q l := by
  have h0 := h
  rcases h.2 with ⟨rfl, h1⟩ | ⟨g, cap, cur, rfl, _, hg, _⟩
  · exact ⟨none, 0, by rw [h1], .inl (List.eq_nil_of_length_eq_zero h1)⟩
  · refine ⟨_, cap, rfl, .inr ⟨g, 0, rfl, (Array.getElem?_eq_some_iff.1 hg).1, fun i hi => ?_⟩⟩
    have := World.ownsRow.cells (g := g) h0 rfl i (.string l[i]) (by simp [strCells, hi])
    rwa [Addr.add_mid] at this

/-- Two slices of the call's own, of unlike rows, lie in unlike blocks. -/
theorem owns_apart {w w' : World} {base e e' size size' n n' : Nat} {v v' : Value} {xs xs' : List Value} (h : w.ownsRow base e size v n xs) (h' : w.ownsRow base e' size' v' n' xs') (hne : e ≠ e') (hg : w.grownBy w' v'.ownBlock) : w'.ownsRow base e size v n xs := by
  refine h.kept hg ?_
  cases hv : v.ownBlock with
  | none => exact .inl rfl
  | some k =>
    right
    intro hk
    rcases h.2 with ⟨rfl, _⟩ | ⟨g, cap, cur, rfl, _, hgg, _⟩
    · cases hv
    rcases h'.2 with ⟨rfl, _⟩ | ⟨g', cap', cur', rfl, _, hgg', _⟩
    · cases hk
    cases hv
    injection hk with hk
    obtain rfl : g = g' := hk
    rw [hgg] at hgg'
    injection hgg' with hgg'
    injection hgg' with _ hgg'
    exact hne hgg'
/-- 'append' of one text, which lies in a block of its own. -/
theorem wp_append_str {P : Program} {w : World} {ops : Array Oper} {rest : List Oper} {o : Oper} {a : Act} {Q : Exit → Act → World → Prop} {sl x : Operand} {t base e c : Nat} {i : TypeInfo} {z v : Value} {n : Nat} {xs : List Value} {K : Nat} {y0 : ByteArray}
    (hgd : o.guard = none) (ho : o.op = .call { callee := .builtin .append, args := #[sl, x], argTypes := #[t, t] })
    (ht : P.underlying t = some (.slice e)) (hi : P.info? e = some i) (hz : i.zero = some z) (hzs : z.cells.size = 1) (hsize : i.size = 1) (hby : i.bytes = 16)
    (hs : a.eval sl = v) (hown : w.ownsRow base e 1 v n xs) (hx : a.eval x = .slice (some ⟨K, 0, none⟩) 1 c) (c0 : w.cell? ⟨K, 0, none⟩ = some (.string y0)) (hn : n ≤ 1048576) (hbase : base ≤ w.heap.size)
    (h : ∀ v' w', w'.ownsRow base e 1 v' (n + 1) (xs ++ [.string y0]) → w.grownBy w' v.ownBlock → wpList P ops Q rest (a.put o.dst v') w') : wpList P ops Q (o :: rest) a w :=
  wpList_append_own w hgd sl x t ho base e i z 1 16 ht hi hz hsize hby hzs (by decide) v n xs hs hown ⟨K, 0, none⟩ 1 c [.string y0] hx rfl
    (fun j u hj => by
      match j, hj with
      | 0, hj => cases hj; exact c0)
    (by intro u hu; rw [List.mem_singleton] at hu; subst hu; rfl) (by unfold maxLen; omega) (by omega) hbase
    fun v' w' h1 h2 _ => h v' w' h1 h2
theorem info_str : (Tryd.prog.info? 9).map (fun i => (i.zero, i.size, i.bytes)) = some (some (.string ⟨#[]⟩), 1, 16) := by kernel_rfl

theorem strs_blockP {w : World} {b : Nat} {l : List ByteArray} {T : TypeId} (h : w.heap[b]? = some (.cells (l.map Value.string).toArray T (0, 0))) : Strs w (some ⟨b, 0, none⟩) l := by
  refine .inr ⟨b, 0, rfl, (Array.getElem?_eq_some_iff.1 h).1, fun i hi => ?_⟩
  rw [Nat.zero_add]
  exact part_cells h (by simp [hi])
end Go.Proofs.YtologhgoojkpmaaDoor
