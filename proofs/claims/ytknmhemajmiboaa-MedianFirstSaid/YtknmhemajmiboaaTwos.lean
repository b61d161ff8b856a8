/- Slices of vectors of one's own: appended to, read. No condition. -/
import Derived.Test.YtknmhemajmiboaaTwo
import Derived.OwnWalk
import Derived.Laws.AppendOwn
import Derived.ChangeMaps5
namespace Go.Proofs.Ytknmhemajmiboaa
open Go.RowKit Go.Lib

/-- The cells of vectors. -/
def vecC (l : List (Int × Int)) : List Value := l.flatMap fun q => [Value.int .i64 q.1, Value.int .i64 q.2]
theorem vecC_snoc (l : List (Int × Int)) (q : Int × Int) : vecC (l ++ [q]) = vecC l ++ [.int .i64 q.1, .int .i64 q.2] := by simp [vecC]
theorem vecC_get (l : List (Int × Int)) (j : Nat) (h : j < l.length) : (vecC l)[j * 2]? = some (.int .i64 l[j].1) ∧ (vecC l)[j * 2 + 1]? = some (.int .i64 l[j].2) := by
  induction l generalizing j with
  | nil => exact absurd h (Nat.not_lt_zero j)
  | cons q l ih =>
    have e : vecC (q :: l) = .int .i64 q.1 :: .int .i64 q.2 :: vecC l := by simp [vecC]
    rw [e]
    cases j with
    | zero => exact ⟨rfl, rfl⟩
    | succ j =>
      rw [show (j + 1) * 2 = j * 2 + 1 + 1 by omega, show j * 2 + 1 + 1 + 1 = (j * 2 + 1) + 1 + 1 by omega, List.getElem?_cons_succ, List.getElem?_cons_succ, List.getElem?_cons_succ, List.getElem?_cons_succ]
      exact ih j (by simpa using h)
theorem vecs_own {w : World} {base e : Nat} {v : Value} {l : List (Int × Int)} {n : Nat} (hl : l.length = n) (h : w.ownsRow base e 2 v n (vecC l)) :
    ∃ (q : Option Addr) (cap : Nat), v = .slice q n cap ∧ VecsAt w q n (fun i => l.getD i (0, 0)) := by
  subst hl
  have h0 := h
  rcases h.2 with ⟨rfl, h1⟩ | ⟨g, cap, cur, rfl, _, hg, _⟩
  · exact ⟨none, 0, by rw [h1], .inl h1⟩
  · refine ⟨_, cap, rfl, .inr ⟨g, 0, rfl, (Array.getElem?_eq_some_iff.1 hg).1, fun i hi => ?_⟩⟩
    have e : l.getD i (0, 0) = l[i] := by simp [List.getD, hi]
    have k0 := World.ownsRow.cells (g := g) h0 rfl (i * 2) _ (vecC_get l i hi).1
    have k1 := World.ownsRow.cells (g := g) h0 rfl (i * 2 + 1) _ (vecC_get l i hi).2
    rw [Addr.add_mid] at k0 k1
    show w.cell? ⟨g, 0 + i * 2, none⟩ = some (.int .i64 (l.getD i (0, 0)).1) ∧ w.cell? ⟨g, 0 + i * 2 + 1, none⟩ = some (.int .i64 (l.getD i (0, 0)).2)
    rw [e]
    exact ⟨k0, k1⟩
/-- 'append' of one vector, whose cells lie in a block of their own. -/
theorem wp_append_vec {P : Program} {w : World} {ops : Array Oper} {rest : List Oper} {o : Oper} {a : Act} {Q : Exit → Act → World → Prop} {sl x : Operand} {t base e c : Nat} {i : TypeInfo} {z v : Value} {n : Nat} {xs : List Value} {K : Nat} {y0 y1 : Int}
    (hgd : o.guard = none) (ho : o.op = .call { callee := .builtin .append, args := #[sl, x], argTypes := #[t, t] })
    (ht : P.underlying t = some (.slice e)) (hi : P.info? e = some i) (hz : i.zero = some z) (hzs : z.cells.size = 2) (hsize : i.size = 2) (hby : i.bytes = 16)
    (hs : a.eval sl = v) (hown : w.ownsRow base e 2 v n xs) (hx : a.eval x = .slice (some ⟨K, 0, none⟩) 1 c) (c0 : w.cell? ⟨K, 0, none⟩ = some (.int .i64 y0)) (c1 : w.cell? ⟨K, 1, none⟩ = some (.int .i64 y1)) (hn : n ≤ 1048576) (hbase : base ≤ w.heap.size)
    (h : ∀ v' w', w'.ownsRow base e 2 v' (n + 1) (xs ++ [.int .i64 y0, .int .i64 y1]) → w.grownBy w' v.ownBlock → wpList P ops Q rest (a.put o.dst v') w') : wpList P ops Q (o :: rest) a w :=
  wpList_append_own w hgd sl x t ho base e i z 2 16 ht hi hz hsize hby hzs (by decide) v n xs hs hown ⟨K, 0, none⟩ 1 c [.int .i64 y0, .int .i64 y1] hx rfl
    (fun j u hj => by
      match j, hj with
      | 0, hj => cases hj; exact c0
      | 1, hj => cases hj; exact c1)
    (by intro u hu; simp only [List.mem_cons, List.not_mem_nil, or_false] at hu; rcases hu with rfl | rfl <;> rfl) (by unfold maxLen; omega) (by omega) hbase
    fun v' w' h1 h2 _ => h v' w' h1 h2
theorem info_vec : ∃ i, Try.prog.info? 24 = some i ∧ i.zero = some (.agg #[.int .i64 0, .int .i64 0]) ∧ i.size = 2 ∧ i.bytes = 16 := by
  have h : (Try.prog.info? 24).map (fun i => (i.zero, i.size, i.bytes)) = some (some (.agg #[.int .i64 0, .int .i64 0]), 2, 16) := by kernel_rfl
  cases hq : Try.prog.info? 24 with
  | none => simp [hq] at h
  | some i =>
    simp [hq] at h
    exact ⟨i, rfl, h.1, h.2.1, h.2.2⟩
theorem VecsAt.congr {w : World} {p : Option Addr} {n : Nat} {f g : Nat → Int × Int} (h : VecsAt w p n f) (hg : ∀ i, i < n → f i = g i) : VecsAt w p n g := by
  rcases h with h | ⟨b, o, rfl, hlt, hc⟩
  · exact .inl h
  · refine .inr ⟨b, o, rfl, hlt, fun i hi => ?_⟩
    rw [← hg i hi]
    exact hc i hi
end Go.Proofs.Ytknmhemajmiboaa
