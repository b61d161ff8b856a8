/- Arrays of 64 int: as values, as they lie in a block, compared, indexed, made, stored, opened where they come in by value. No condition. -/
import Derived.Test.YtknmhemajmiboaaEvc
import Derived.ChangeKeysEq
namespace Go.Proofs.Ytknmhemajmiboaa
open Go.RowKit Go.Lib Go.ChangeShapes Go.WideShapes Go.ChangeAt

/-- The cells of 64 numbers. -/
def arrL (f : Nat → Int) : List Value := (List.range 64).map fun i => .int .i64 (f i)
theorem arrL_len (f : Nat → Int) : (arrL f).length = 64 := by simp [arrL]
theorem arrL_at (f : Nat → Int) {i : Nat} (h : i < 64) : (arrL f)[i]? = some (.int .i64 (f i)) := by simp [arrL, h]
theorem arrL_congr {f g : Nat → Int} (h : ∀ i, i < 64 → f i = g i) : arrL f = arrL g := by
  unfold arrL
  refine List.map_congr_left fun i hi => ?_
  rw [h i (List.mem_range.1 hi)]
theorem arrL_one (f : Nat → Int) : ∀ v ∈ arrL f, v.oneCell' = true := by
  intro v hv
  obtain ⟨i, _, rfl⟩ := List.mem_map.1 hv
  rfl
/-- One of them anew. -/
def setF (f : Nat → Int) (i : Nat) (v : Int) : Nat → Int := fun k => if k = i then v else f k
theorem arrL_set (f : Nat → Int) {i : Nat} (v : Int) : (arrL f).set i (.int .i64 v) = arrL (setF f i v) := by
  refine List.ext_getElem? fun k => ?_
  rw [List.getElem?_set, arrL_len]
  by_cases hk : k < 64
  · by_cases e : i = k
    · subst e
      rw [if_pos rfl, if_pos hk, arrL_at _ hk]
      simp [setF]
    · rw [if_neg e, arrL_at _ hk, arrL_at _ hk]
      unfold setF
      rw [if_neg (fun h => e h.symm)]
  · by_cases e : i = k
    · subst e
      rw [if_pos rfl, if_neg hk, List.getElem?_eq_none (by rw [arrL_len]; omega)]
    · rw [if_neg e, List.getElem?_eq_none (by rw [arrL_len]; omega), List.getElem?_eq_none (by rw [arrL_len]; omega)]
def arrA (f : Nat → Int) : Array Value := (arrL f).toArray
theorem arrA_size (f : Nat → Int) : (arrA f).size = 64 := arrL_len f
theorem arrA_at (f : Nat → Int) {i : Nat} (h : i < 64) : (arrA f)[i]? = some (.int .i64 (f i)) := by
  unfold arrA
  rw [List.getElem?_toArray]
  exact arrL_at f h
theorem arrA_one (f : Nat → Int) : (arrA f).all (·.oneCell') = true := by
  rw [Array.all_eq_true_iff_forall_mem]
  intro v hv
  exact arrL_one f v (by simpa [arrA] using hv)
theorem arrA_congr {f g : Nat → Int} (h : ∀ i, i < 64 → f i = g i) : arrA f = arrA g := congrArg List.toArray (arrL_congr h)
def arrV (f : Nat → Int) : Value := .agg (arrA f)
/-- Are they the same? -/
def arrEq (f g : Nat → Int) : Bool := (List.range 64).all fun i => f i == g i
theorem arrEq_iff {f g : Nat → Int} : arrEq f g = true ↔ ∀ i, i < 64 → f i = g i := by simp [arrEq]

/-! ### Their operations -/
theorem int_info : ∃ i, Try.prog.info? 3 = some i := by
  cases h : Try.prog.info? 3 with
  | some i => exact ⟨i, rfl⟩
  | none =>
    have h2 : (Try.prog.info? 3).isSome = true := by kernel_rfl
    rw [h] at h2
    cases h2
theorem int_cells : Try.prog.cellsOf 3 = 1 := by kernel_rfl
theorem int_plain : Try.prog.plainKey 3 = true := by kernel_rfl
theorem part_at (f : Nat → Int) {i : Nat} (h : i < 64) (w : World) : (part 3 (arrA f) i).run Try.prog w = .ok (.int .i64 (f i)) w := run_part_plain w int_plain (arrA_at f h)
theorem eq_items (d : Nat) (f g : Nat → Int) (w : World) : ∀ is : List Nat, (∀ i ∈ is, i < 64) → (Op.eqItems (d + 1) 3 (Try.prog.cellsOf 3) (arrA f) (arrA g) is).run Try.prog w = .ok (is.all fun i => f i == g i) w
  | [], _ => by simp [Op.eqItems]
  | i :: is, h => by
    have hi := h i List.mem_cons_self
    have p1 := part_at f hi w
    have p2 := part_at g hi w
    have p3 := run_equalIn_int (P := Try.prog) w d 3 .i64 .i64 (f i) (g i) Try.underlying3
    have ih := eq_items d f g w is fun k hk => h k (List.mem_cons_of_mem _ hk)
    rw [int_cells] at ih ⊢
    simp only [Op.eqItems, Sem.run_bind, Nat.mul_one, p1, p2, p3, Result.andThen_ok, List.all_cons]
    cases hq : (f i == g i) with
    | false => simp
    | true => simpa using ih
/-! ### How they lie -/
/-- A whole array stored into a block that is known whole. -/
theorem wp_store_arr {P : Program} {ops : Array Oper} {rest : List Oper} {op : Oper} {a : Act} {w : World} {Q : Exit → Act → World → Prop} (hgd : op.guard = none) (ty : TypeId) (x y : Operand) (ho : op.op = .store ty x y)
    (b : Nat) (Z old : Array Value) (hx : a.eval x = .pointer (some ⟨b, 0, none⟩)) (hy : a.eval y = .agg Z) (T : TypeId) (hg : w.heap[b]? = some (.cells old T (0, 0))) (hi : (P.info? ty).map (·.size) = some Z.size) (hs : old.size = Z.size) (h1 : Z.all (·.oneCell') = true)
    (h : ∀ w', w'.heap[b]? = some (.cells Z T (0, 0)) → w.grownBy w' (some b) → wpList P ops Q rest (a.put op.dst undef) w') : wpList P ops Q (op :: rest) a w :=
  wpList_store_row hgd ty x y ho b Z hx hy T old hg hi hs h1 (h _ (setRow_heap w b old Z T (0, 0) hg) ⟨rfl, rfl, rfl, by simp, fun k _ hk => setRow_other w b k _ (by intro e; exact hk (by rw [e]))⟩)

/-- A whole array loaded behind a guard that is met. -/
theorem wpList_wanted_load {P : Program} {ops : Array Oper} {rest : List Oper} {o : Oper} {a : Act} {w : World} {Q : Exit → Act → World → Prop} (hw : Region.wanted o (yielded ops a.tmps) = true) (ty : TypeId) (x : Operand) (ho : o.op = .load ty x)
    (g : Nat) (hx : a.eval x = .pointer (some ⟨g, 0, none⟩)) (t : TypeId) (cs : Array Value) (fr : Nat × Nat) (d : TypeDesc) (hg : w.heap[g]? = some (.cells cs t fr))
    (hu : P.underlying ty = some d) (hd : (match d with | .struct _ | .array _ _ => true | _ => false) = true) (hi : (P.info? ty).map (·.size) = some cs.size)
    (h : wpList P ops Q rest (a.put o.dst (.agg cs)) w) : wpList P ops Q (o :: rest) a w := by
  unfold wpList
  rw [if_pos hw]
  exact .inl (wp_load_row ty x ho g hx t cs fr d hg hu hd hi h)
/-- An array literal behind a guard that is met. -/
theorem wpList_wanted_build {P : Program} {ops : Array Oper} {rest : List Oper} {o : Oper} {a : Act} {w : World} {Q : Exit → Act → World → Prop} (hw : Region.wanted o (yielded ops a.tmps) = true) (t : TypeId) (parts : Array (Nat × Operand)) (ho : o.op = .build t parts)
    (d : Option Tmp) (hd : o.dst = d) (cells : Array Value) (hf : P.built t (parts.map fun (i, x) => (i, a.eval x)).toList = some cells)
    (h : wpList P ops Q rest (a.put d (.agg cells)) w) : wpList P ops Q (o :: rest) a w := by
  subst hd
  unfold wpList
  rw [if_pos hw]
  exact .inl (wp_build t parts ho (by rw [hf]; rfl) (by rw [hf]; exact h))

/-- What a call that answers a block gives. -/
def BlkGives (g : Nat → Int) (w : World) (e : Ending) (w' : World) : Prop := e = .returned (.agg (arrA g)) ∧ Below w.heap.size w w'
theorem blk_at {g h : Nat → Int} {w w' : World} {Z : Array Value} (hg : ∀ i, i < 64 → h i = g i) (hZ : arrA h = Z) (hb : Below w.heap.size w w') : BlkGives g w (.returned (.agg Z)) w' := by
  unfold BlkGives
  rw [← hZ, arrA_congr hg]
  exact ⟨rfl, hb⟩
/-- The first k numbers put, the others 0. -/
def putS (g : Nat → Int) : Nat → (Nat → Int)
  | 0 => fun _ => 0
  | k + 1 => setF (putS g k) k (g k)
theorem putS_at (g : Nat → Int) : ∀ k p, putS g k p = if p < k then g p else 0
  | 0, p => rfl
  | k + 1, p => by
    unfold putS setF
    by_cases e : p = k
    · subst e
      rw [if_pos rfl, if_pos (by omega)]
    · rw [if_neg e, putS_at g k p]
      by_cases hlt : p < k
      · rw [if_pos hlt, if_pos (by omega)]
      · rw [if_neg hlt, if_neg (by omega)]
theorem putS_all (g : Nat → Int) : ∀ p, p < 64 → putS g 64 p = g p := by
  intro p hp
  rw [putS_at, if_pos hp]

section
variable {H : Type} {enc : TypeId × Value → H} {P : Program}
/-- An array of 64 int that comes in by value. -/
theorem open_arr {w : World} {r : Reach} {b0 base : Nat} {sp : Nat → Bool} {held : Bool} {t e : TypeId} {v : Value} {d : DataW H} {ps : List MemPlace}
    (ht : P.underlying t = some (.array 64 e)) (he : P.underlying e = some (.int .i64)) (hc : P.cellsOf t = 64) (hce : P.cellsOf e = 1)
    (hval : Value.okWide P w r b0 t v) (hd : DataW.Trod enc P w base sp held t v d ps) :
    ∃ f : Nat → Int, v = .agg (arrA f) ∧ ∀ i, i < 64 → (Lit.int .i64 (f i)).wf = true := by
  obtain ⟨cs, rfl, hsz, _⟩ : ∃ cs, v = .agg cs ∧ cs.size = P.cellsOf t ∧ Row.okWide P w r b0 t cs := by
    simpa [Value.okWide, ht] using hval
  rw [hc] at hsz
  obtain ⟨fuel, hf⟩ := hd
  obtain ⟨xs, m, _, _, _, hl, hel⟩ := DataW.trod_array ht hf
  rw [hce] at hel
  have each : ∀ i, i < 64 → ∃ x : Int, cs.toList[i]? = some (.int .i64 x) ∧ (Lit.int .i64 x).wf = true := by
    intro i hi
    have h1 := hel i hi
    have h2 : i < cs.toList.length := by rw [Array.length_toList, hsz]; exact hi
    rw [Nat.mul_one, show (Value.agg cs).cells.toList = cs.toList from rfl, List.drop_eq_getElem_cons h2, List.take_succ_cons, List.take_zero] at h1
    have hxl : i < xs.length := by rw [hl]; exact hi
    rw [List.getElem?_eq_getElem hxl] at h1
    obtain ⟨x0, e0, _, w0⟩ := DataW.trod_int he h1
    injection e0 with e0
    exact ⟨x0, by rw [List.getElem?_eq_getElem h2, e0], w0⟩
  refine ⟨fun i => match cs.toList[i]? with | some (.int _ x) => x | _ => 0, ?_, ?_⟩
  · congr 1
    apply Array.ext'
    refine List.ext_getElem? fun i => ?_
    by_cases hi : i < 64
    · obtain ⟨x, hx, _⟩ := each i hi
      rw [hx, show ∀ g, (arrA g).toList = arrL g from fun g => rfl, arrL_at _ hi]
      simp only [hx]
    · rw [List.getElem?_eq_none (by rw [Array.length_toList, hsz]; omega), List.getElem?_eq_none (by rw [Array.length_toList, arrA_size]; omega)]
  · intro i hi
    obtain ⟨x, hx, hw⟩ := each i hi
    simp only [hx]
    exact hw
end
end Go.Proofs.Ytknmhemajmiboaa
