/- What a map of package mcbpc's symbols to texts reads as, when it was filled code by code. No condition. -/
import Derived.Test.YtoacbdaamdodaaaDoorSlotsY
import Derived.Maps.StringElems
import Derived.DeepKeys4
namespace Go.Proofs.YtoacbdaamdodaaaDoor
open Go.RowKit Go.Maps

/-! ### The keys: a struct of two ints -/
theorem laid_sym : laidOutB Tryd.prog = true := by kernel_rfl
theorem sym_law : WideMaps.KeyLaw Tryd.prog 52 := deep_law_laid laid_sym (m := 2) (by omega) (of_decide_eq_true (by kernel_rfl)) (by kernel_rfl) (by kernel_rfl)
theorem sym_keyed : Keyed Tryd.prog 52 := Keyed.of_law sym_law
def valSy (s : Sym) : Value := .agg #[.int .i64 (sA s), .int .i64 (sB s)]
def symLit (s : Sym) : Lit := .string (keyBytes [.int .i64 (sA s), .int .i64 (sB s)])
theorem sym_lit : ∀ s : Sym, keyOf Tryd.prog 52 (valSy s) = some (symLit s) := by
  have h : ∀ a b : Nat, a < 6 → b < 4 → keyOf Tryd.prog 52 (.agg #[.int .i64 (a : Int), .int .i64 (b : Int)]) = some (.string (keyBytes [.int .i64 (a : Int), .int .i64 (b : Int)])) := by
    intro a b ha hb
    rcases (by omega : a = 0 ∨ a = 1 ∨ a = 2 ∨ a = 3 ∨ a = 4 ∨ a = 5) with rfl | rfl | rfl | rfl | rfl | rfl <;> rcases (by omega : b = 0 ∨ b = 1 ∨ b = 2 ∨ b = 3) with rfl | rfl | rfl | rfl <;> kernel_rfl
  exact fun s => h s.1.val s.2.val s.1.isLt s.2.isLt
theorem sym_inj {s t : Sym} (h : symLit s = symLit t) : s = t := by
  have hs := sym_lit s
  rw [h] at hs
  have e := sym_keyed.inj hs (sym_lit t)
  unfold valSy at e
  simp only [Value.agg.injEq, Array.mk.injEq, List.cons.injEq, Value.int.injEq, true_and, and_true] at e
  exact sym_eq e.1 e.2

abbrev keyCY (x : ByteArray × Sym) : Lit := symLit x.2
theorem key_litY (s : Sym) : WideAt.IsKeyLit (symLit s) := trivial
def valCY (x : ByteArray × Sym) : DataW Unit := .lit (.string x.1.data.toList)
def datumFromY (D : DataW Unit) (l : List (ByteArray × Sym)) : DataW Unit := l.foldl (fun D x => D.put (keyCY x) (valCY x)) D
def datumY (l : List (ByteArray × Sym)) : DataW Unit := datumFromY (.map []) l
theorem datum_takeY (l : List (ByteArray × Sym)) (j : Nat) (h : j < l.length) : datumY (l.take (j + 1)) = (datumY (l.take j)).put (keyCY l[j]) (valCY l[j]) := by
  unfold datumY datumFromY
  rw [List.take_succ_eq_append_getElem h, List.foldl_append]
  rfl
theorem key_neY {s t : Sym} (h : s ≠ t) : symLit s ≠ symLit t := fun e => h (sym_inj e)
theorem from_sizeY : ∀ {l : List (ByteArray × Sym)} {D : DataW Unit} {acc : List Sym}, Tidy D → (∀ s, has D (symLit s) = true ↔ s ∈ acc) → size D = acc.length → acc.Nodup →
    size (datumFromY D l) ≤ acc.length + l.length ∧ (size (datumFromY D l) = acc.length + l.length ↔ (acc ++ l.map (·.2)).Nodup)
  | [], D, acc, _, _, h, hn => ⟨by show size D ≤ _; omega, by rw [List.map_nil, List.append_nil]; exact ⟨fun _ => hn, fun _ => h⟩⟩
  | x :: l, D, acc, ht, hh, hs, hn => by
    have ht2 := ht.put (k := keyCY x) (key_litY _) (valCY x)
    by_cases hx : x.2 ∈ acc
    · have hh2 : ∀ s, has (D.put (keyCY x) (valCY x)) (symLit s) = true ↔ s ∈ acc := by
        intro s
        by_cases e : s = x.2
        · subst e
          exact ⟨fun _ => hx, fun _ => has_put_same ht.isMap (key_litY _) _⟩
        · rw [has_put_other (key_neY e)]
          exact hh s
      have hs2 : size (D.put (keyCY x) (valCY x)) = acc.length := by
        rw [size_put ht, if_pos ((hh x.2).2 hx)]
        exact hs
      obtain ⟨i1, _⟩ := from_sizeY (l := l) ht2 hh2 hs2 hn
      rw [List.length_cons]
      refine ⟨Nat.le_trans i1 (by omega), ⟨fun e => ?_, fun hd => ?_⟩⟩
      · exfalso
        have e' : size (datumFromY (D.put (keyCY x) (valCY x)) l) = acc.length + (l.length + 1) := e
        omega
      · exfalso
        exact (List.nodup_append.1 hd).2.2 x.2 hx x.2 (by simp) rfl
    · have hh2 : ∀ s, has (D.put (keyCY x) (valCY x)) (symLit s) = true ↔ s ∈ acc ++ [x.2] := by
        intro s
        rw [List.mem_append, List.mem_singleton]
        by_cases e : s = x.2
        · subst e
          exact ⟨fun _ => .inr rfl, fun _ => has_put_same ht.isMap (key_litY _) _⟩
        · rw [has_put_other (key_neY e), hh s]
          exact ⟨.inl, fun h => h.resolve_right e⟩
      have hs2 : size (D.put (keyCY x) (valCY x)) = (acc ++ [x.2]).length := by
        rw [size_put ht, if_neg (fun h => hx ((hh x.2).1 h)), List.length_append, List.length_singleton, hs]
      have hn2 : (acc ++ [x.2]).Nodup := List.nodup_append.2 ⟨hn, by simp, fun a ha b hb e => hx (by rw [List.mem_singleton] at hb; rw [← hb, ← e]; exact ha)⟩
      obtain ⟨i1, i2⟩ := from_sizeY (l := l) ht2 hh2 hs2 hn2
      rw [List.length_append, List.length_singleton] at i1 i2
      rw [List.length_cons, List.map_cons]
      rw [List.append_assoc] at i2
      refine ⟨Nat.le_trans i1 (by omega), ?_⟩
      rw [show acc.length + (l.length + 1) = acc.length + 1 + l.length by omega]
      exact i2
theorem datum_sizeY (l : List (ByteArray × Sym)) : size (datumY l) ≤ l.length ∧ (size (datumY l) = l.length ↔ (l.map (·.2)).Nodup) := by
  have := from_sizeY (l := l) (D := (.map [] : DataW Unit)) (acc := []) tidy_empty (fun s => by simp [Maps.has]) rfl List.nodup_nil
  simp only [List.length_nil, Nat.zero_add, List.nil_append] at this
  exact this
end Go.Proofs.YtoacbdaamdodaaaDoor
