/- What a map of ints to texts reads as, when it was filled code by code. No condition. -/
import Derived.Test.YtfechonaghjcnaaDoorSlots
import Derived.Maps.StringElems
namespace Go.Proofs.YtfechonaghjcnaaDoor
open Go.RowKit Go.Maps

abbrev keyC (x : ByteArray × Int) : Lit := .int .i64 x.2
theorem key_lit (s : Int) : WideAt.IsKeyLit (.int .i64 s) := trivial
def valC (x : ByteArray × Int) : DataW Unit := .lit (.string x.1.data.toList)
def datumFrom (D : DataW Unit) (l : List (ByteArray × Int)) : DataW Unit := l.foldl (fun D x => D.put (keyC x) (valC x)) D
def datum (l : List (ByteArray × Int)) : DataW Unit := datumFrom (.map []) l
theorem datum_take (l : List (ByteArray × Int)) (j : Nat) (h : j < l.length) : datum (l.take (j + 1)) = (datum (l.take j)).put (keyC l[j]) (valC l[j]) := by
  unfold datum datumFrom
  rw [List.take_succ_eq_append_getElem h, List.foldl_append]
  rfl
theorem key_ne {s t : Int} (h : s ≠ t) : (Lit.int .i64 s) ≠ .int .i64 t := by
  intro e
  injection e with _ e
  exact h e
theorem from_map {D : DataW Unit} (h : IsMap D) : ∀ l : List (ByteArray × Int), IsMap (datumFrom D l) ∧ True
  | [] => ⟨h, trivial⟩
  | x :: l => from_map (h.put (keyC x) (valC x)) l
theorem from_none {s : Int} : ∀ {l : List (ByteArray × Int)} {D : DataW Unit}, (∀ x ∈ l, x.2 ≠ s) → (∀ z, (datumFrom D l).atKey (.int .i64 s) z = D.atKey (.int .i64 s) z) ∧ has (datumFrom D l) (.int .i64 s) = has D (.int .i64 s)
  | [], _, _ => ⟨fun _ => rfl, rfl⟩
  | x :: l, D, h => by
    have hne : s ≠ x.2 := fun e => h x List.mem_cons_self e.symm
    obtain ⟨h1, h2⟩ := from_none (l := l) (D := D.put (keyC x) (valC x)) fun y hy => h y (List.mem_cons_of_mem _ hy)
    refine ⟨fun z => (h1 z).trans (atKey_put_other (key_ne hne) _ _), h2.trans (has_put_other (key_ne hne) _)⟩
theorem from_some {x : ByteArray × Int} : ∀ {l : List (ByteArray × Int)} {D : DataW Unit}, IsMap D → (l.map (·.2)).Nodup → x ∈ l → (∀ z, (datumFrom D l).atKey (.int .i64 x.2) z = valC x) ∧ has (datumFrom D l) (.int .i64 x.2) = true
  | [], _, _, _, h => by cases h
  | y :: l, D, hD, hn, h => by
    obtain ⟨hn1, hn2⟩ := List.nodup_cons.1 (show (y.2 :: l.map (·.2)).Nodup from hn)
    rcases List.mem_cons.1 h with rfl | h
    · have hno : ∀ z ∈ l, z.2 ≠ x.2 := fun z hz e => hn1 (by rw [← e]; exact List.mem_map_of_mem hz)
      obtain ⟨h1, h2⟩ := from_none (D := D.put (keyC x) (valC x)) hno
      exact ⟨fun z => (h1 z).trans (atKey_put_same hD (key_lit _) _ _), h2.trans (has_put_same hD (key_lit _) _)⟩
    · exact from_some (l := l) (hD.put (keyC y) (valC y)) hn2 h
theorem from_size : ∀ {l : List (ByteArray × Int)} {D : DataW Unit} {acc : List Int}, Tidy D → (∀ s, has D (.int .i64 s) = true ↔ s ∈ acc) → size D = acc.length → acc.Nodup →
    size (datumFrom D l) ≤ acc.length + l.length ∧ (size (datumFrom D l) = acc.length + l.length ↔ (acc ++ l.map (·.2)).Nodup)
  | [], D, acc, _, _, h, hn => ⟨by show size D ≤ _; omega, by rw [List.map_nil, List.append_nil]; exact ⟨fun _ => hn, fun _ => h⟩⟩
  | x :: l, D, acc, ht, hh, hs, hn => by
    have ht2 := ht.put (k := keyC x) (key_lit _) (valC x)
    by_cases hx : x.2 ∈ acc
    · have hh2 : ∀ s, has (D.put (keyC x) (valC x)) (.int .i64 s) = true ↔ s ∈ acc := by
        intro s
        by_cases e : s = x.2
        · subst e
          exact ⟨fun _ => hx, fun _ => has_put_same ht.isMap (key_lit _) _⟩
        · rw [has_put_other (key_ne e)]
          exact hh s
      have hs2 : size (D.put (keyC x) (valC x)) = acc.length := by
        rw [size_put ht, if_pos ((hh x.2).2 hx)]
        exact hs
      obtain ⟨i1, _⟩ := from_size (l := l) ht2 hh2 hs2 hn
      rw [List.length_cons]
      refine ⟨Nat.le_trans i1 (by omega), ⟨fun e => ?_, fun hd => ?_⟩⟩
      · exfalso
        have e' : size (datumFrom (D.put (keyC x) (valC x)) l) = acc.length + (l.length + 1) := e
        omega
      · exfalso
        exact (List.nodup_append.1 hd).2.2 x.2 hx x.2 (by simp) rfl
    · have hh2 : ∀ s, has (D.put (keyC x) (valC x)) (.int .i64 s) = true ↔ s ∈ acc ++ [x.2] := by
        intro s
        rw [List.mem_append, List.mem_singleton]
        by_cases e : s = x.2
        · subst e
          exact ⟨fun _ => .inr rfl, fun _ => has_put_same ht.isMap (key_lit _) _⟩
        · rw [has_put_other (key_ne e), hh s]
          exact ⟨.inl, fun h => h.resolve_right e⟩
      have hs2 : size (D.put (keyC x) (valC x)) = (acc ++ [x.2]).length := by
        rw [size_put ht, if_neg (fun h => hx ((hh x.2).1 h)), List.length_append, List.length_singleton, hs]
      have hn2 : (acc ++ [x.2]).Nodup := List.nodup_append.2 ⟨hn, by simp, fun a ha b hb e => hx (by rw [List.mem_singleton] at hb; rw [← hb, ← e]; exact ha)⟩
      obtain ⟨i1, i2⟩ := from_size (l := l) ht2 hh2 hs2 hn2
      rw [List.length_append, List.length_singleton] at i1 i2
      rw [List.length_cons, List.map_cons]
      rw [List.append_assoc] at i2
      refine ⟨Nat.le_trans i1 (by omega), ?_⟩
      rw [show acc.length + (l.length + 1) = acc.length + 1 + l.length by omega]
      exact i2
theorem datum_size (l : List (ByteArray × Int)) : size (datum l) ≤ l.length ∧ (size (datum l) = l.length ↔ (l.map (·.2)).Nodup) := by
  have := from_size (l := l) (D := (.map [] : DataW Unit)) (acc := []) tidy_empty (fun s => by simp [Maps.has]) rfl List.nodup_nil
  simp only [List.length_nil, Nat.zero_add, List.nil_append] at this
  exact this

/-- The map of a table: filled code by code, each symbol once. -/
def RowMap (w : World) (m : Option Nat) (ds : List (ByteArray × Int)) : Prop :=
  (m = none ∧ ds = []) ∨ ∃ bm n l, m = some bm ∧ w.ownsMap Tryd.prog 3 (plainElem Tryd.prog 9) bm n (datum l) ∧ (l.map (·.2)).Nodup ∧ l.Perm ds
theorem RowMap.below {w w' : World} {m : Option Nat} {ds : List (ByteArray × Int)} (h : RowMap w m ds) (hb : Below w.heap.size w w') : RowMap w' m ds := by
  rcases h with h | ⟨bm, n, l, rfl, ho, hn, hp⟩
  · exact .inl h
  · refine .inr ⟨bm, n, l, rfl, ?_, hn, hp⟩
    exact ho.kept (row := none) ⟨hb.os, hb.tape, hb.output, hb.size, fun k hk _ => hb.block k hk⟩ (by simp)
theorem int_key : Keyed Tryd.prog 3 := int_keyed Tryd.underlying3
theorem zero_str (w : World) : (zeroValue 9).run Tryd.prog w = .ok (.string ⟨#[]⟩) w := by kernel_rfl
theorem lit_text {a b : List UInt8} (h : (DataW.lit (.string a) : DataW Unit) = .lit (.string b)) : a = b := by
  injection h with h
  injection h
theorem ba_nil {t : ByteArray} (h : t.data.toList = []) : t = ⟨#[]⟩ := by
  obtain ⟨⟨l⟩⟩ := t
  cases h
  rfl
/-- What is found at a symbol. -/
theorem RowMap.look {w : World} {m : Option Nat} {ds : List (ByteArray × Int)} (h : RowMap w m ds) (s : Int) (hs : (Lit.int .i64 s).wf = true) :
    ∃ (v : ByteArray) (ok : Bool), (Instr.lookup 58 (.map m) (.int .i64 s) true).run Tryd.prog w = .ok (.tuple #[.string v, .bool ok]) w ∧ ((∀ x ∈ ds, x.2 ≠ s) → v = ⟨#[]⟩ ∧ ok = false) ∧ (∀ x ∈ ds, x.2 = s → v.data.toList = x.1.data.toList ∧ ok = true) := by
  rcases h with ⟨rfl, rfl⟩ | ⟨bm, n, l, rfl, ho, hn, hp⟩
  · exact ⟨⟨#[]⟩, false, Maps.look_nil true int_key Tryd.underlying58 (zero_str w) (keyOf_int_mk Tryd.underlying3 hs), fun _ => ⟨rfl, rfl⟩, fun x hx => by cases hx⟩
  · obtain ⟨v, ps, hrun, hv⟩ := ho.look_ok int_key Tryd.underlying58 (zero_str w) (plainElem_string Tryd.underlying9 (by decide)) (keyOf_int_mk Tryd.underlying3 hs)
    obtain ⟨t, rfl, ht, _⟩ := plainElem_string_inv Tryd.underlying9 hv
    have ht1 := congrArg Prod.fst ht
    refine ⟨t, _, hrun, fun hno => ?_, fun x hx hxs => ?_⟩
    · obtain ⟨h1, h2⟩ := from_none (D := (.map [] : DataW Unit)) (l := l) (s := s) fun x hx => hno x (hp.mem_iff.1 hx)
      refine ⟨?_, h2⟩
      exact ba_nil (lit_text ((h1 _).symm.trans ht1)).symm
    · subst hxs
      obtain ⟨h1, h2⟩ := from_some (D := (.map [] : DataW Unit)) isMap_empty hn (hp.mem_iff.2 hx)
      refine ⟨?_, h2⟩
      exact (lit_text ((h1 _).symm.trans ht1)).symm
end Go.Proofs.YtfechonaghjcnaaDoor
