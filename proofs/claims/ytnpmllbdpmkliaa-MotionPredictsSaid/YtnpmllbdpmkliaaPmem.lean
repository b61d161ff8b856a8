/- Frames as they lie: a number and three slices of bytes, in a block; slices of bytes that come in, and those of the call's own; what a store and a copy leave. No condition. -/
import Derived.Test.YtnpmllbdpmkliaaPln
import Derived.Test.YtnpmllbdpmkliaaArn
import Derived.Laws.IdiomCopy
import Derived.Laws.BytesArg
import Derived.Laws.World
namespace Go.Proofs.Ytnpmllbdpmkliaa
open Go.RowKit Go.Lib Go.ChangeShapes Go.WideShapes Go.ChangeAt

/-! ### A frame's cells -/
def frL (k : Int) (v : Nat → Value) : List Value := [.int .i64 k, v 0, v 1, v 2]
def frA (k : Int) (v : Nat → Value) : Array Value := (frL k v).toArray
def frO (T : TypeId) (k : Int) (v : Nat → Value) : Obj := .cells (frA k v) T (0, 0)
def nilV : Nat → Value := fun _ => .slice none 0 0
def setV (v : Nat → Value) (p : Nat) (x : Value) : Nat → Value := fun q => if q = p then x else v q
theorem frA_size (k : Int) (v : Nat → Value) : (frA k v).size = 4 := rfl
section
variable {w : World} {B : Nat} {T : TypeId} {k : Int} {v : Nat → Value}
theorem fr_cell0 (h : w.heap[B]? = some (frO T k v)) : w.cell? ⟨B, 0, none⟩ = some (.int .i64 k) := part_cells (cs := frL k v) h rfl
theorem fr_cell (h : w.heap[B]? = some (frO T k v)) {p : Nat} (hp : p < 3) : w.cell? ⟨B, 1 + p, none⟩ = some (v p) := by
  refine part_cells (cs := frL k v) h ?_
  match p, hp with
  | 0, _ => rfl
  | 1, _ => rfl
  | 2, _ => rfl
theorem fr_free (h : w.heap[B]? = some (frO T k v)) (o : Nat) : w.frozen? ⟨B, o, none⟩ = false := part_free (cs := frL k v) h
theorem fr_put (h : w.heap[B]? = some (frO T k v)) {p : Nat} (hp : p < 3) (x : Value) : (w.setCell ⟨B, 1 + p, none⟩ x).heap[B]? = some (frO T k (setV v p x)) := by
  have e := part_set (cs := frL k v) (o := 1 + p) x h
  rw [e]
  match p, hp with
  | 0, _ => rfl
  | 1, _ => rfl
  | 2, _ => rfl
end
theorem setV_at (v : Nat → Value) (p : Nat) (x : Value) : setV v p x p = x := by unfold setV; rw [if_pos rfl]
theorem setV_other (v : Nat → Value) {p q : Nat} (x : Value) (h : q ≠ p) : setV v p x q = v q := by unfold setV; rw [if_neg h]
theorem fr_sized {T : TypeId} (h : (Try.prog.info? T).map (·.size) = some 4) (k : Int) (v : Nat → Value) : (Try.prog.info? T).map (·.size) = some (frA k v).size := h
theorem fr_ones (k : Int) (v : Nat → Value) (h : ∀ p, p < 3 → (v p).oneCell' = true) : (frA k v).all (·.oneCell') = true := by
  rw [Array.all_eq_true_iff_forall_mem]
  intro x hx
  simp only [frA, frL, List.mem_toArray, List.mem_cons, List.not_mem_nil, or_false] at hx
  rcases hx with rfl | rfl | rfl | rfl
  · rfl
  · exact h 0 (by omega)
  · exact h 1 (by omega)
  · exact h 2 (by omega)

theorem byte_info : ∃ i, Try.prog.info? 26 = some i := by
  cases h : Try.prog.info? 26 with
  | some i => exact ⟨i, rfl⟩
  | none =>
    have h2 : (Try.prog.info? 26).isSome = true := by kernel_rfl
    rw [h] at h2
    cases h2
theorem byte_cells : Try.prog.cellsOf 26 = 1 := by kernel_rfl
/-- A plane of three, by its number. -/
theorem fr_index (v : Nat → Value) {p : Nat} (hp : p < 3) (w : World) : (Instr.index 27 (.agg #[v 0, v 1, v 2]) (.int .i64 (p : Int))).run Try.prog w = .ok (v p) w := by
  obtain ⟨j, hj⟩ := byte_info
  have h1 : (0 : Int) ≤ (p : Int) ∧ (p : Int) < ((3 : Nat) : Int) := by omega
  have hx : #[v 0, v 1, v 2][p]? = some (v p) := by
    match p, hp with
    | 0, _ => rfl
    | 1, _ => rfl
    | 2, _ => rfl
  simp only [Instr.index, asIntOf, Sem.run_bind, Sem.run_pure, Result.andThen_ok, run_underlying Try.underlying27, if_pos h1, run_sizeOf w hj, byte_cells, Nat.mul_one, Int.toNat_natCast]
  simp [part, isAgg, run_underlying Try.underlying26, hx]

/-! ### Slices of bytes -/
def BtAt (w : World) (v : Value) (n : Nat) (f : Nat → Int) : Prop := ∃ p c, v = .slice p n c ∧ n ≤ c ∧ (n = 0 ∨ ∃ b o, p = some ⟨b, o, none⟩ ∧ ∀ i, i < n → w.cell? ⟨b, o + i, none⟩ = some (.int .u8 (f i)) ∧ 0 ≤ f i ∧ f i ≤ 255)
theorem BtAt.one {w : World} {v : Value} {n : Nat} {f : Nat → Int} (h : BtAt w v n f) : v.oneCell' = true := by
  obtain ⟨p, c, rfl, _⟩ := h
  rfl
theorem BtAt.below {w w' : World} {v : Value} {n : Nat} {f : Nat → Int} (h : BtAt w v n f) (hb : Below w.heap.size w w') : BtAt w' v n f := by
  obtain ⟨p, c, rfl, hc, h⟩ := h
  refine ⟨p, c, rfl, hc, ?_⟩
  rcases h with h | ⟨b, o, rfl, h⟩
  · exact .inl h
  · refine .inr ⟨b, o, rfl, fun i hi => ?_⟩
    obtain ⟨h1, h2⟩ := h i hi
    exact ⟨(hb.cell (p := ⟨b, o + i, none⟩) (World.block_lt_of_cell? w ⟨b, o + i, none⟩ h1)).trans h1, h2⟩
theorem BtAt.nil (w : World) (f : Nat → Int) : BtAt w (.slice none 0 0) 0 f := ⟨none, 0, rfl, Nat.le_refl _, .inl rfl⟩
theorem BtAt.range {w : World} {v : Value} {n : Nat} {f : Nat → Int} (h : BtAt w v n f) : ∀ i, i < n → 0 ≤ f i ∧ f i ≤ 255 := by
  obtain ⟨p, c, rfl, hc, h⟩ := h
  rcases h with h | ⟨b, o, rfl, h⟩
  · intro i hi; omega
  · intro i hi; exact (h i hi).2
def FrAt (w : World) (v : Nat → Value) (n : Nat → Nat) (f : Nat → Nat → Int) : Prop := ∀ p, p < 3 → BtAt w (v p) (n p) (f p)
theorem FrAt.below {w w' : World} {v : Nat → Value} {n : Nat → Nat} {f : Nat → Nat → Int} (h : FrAt w v n f) (hb : Below w.heap.size w w') : FrAt w' v n f := fun p hp => (h p hp).below hb
theorem FrAt.nil (w : World) : FrAt w nilV (fun _ => 0) (fun _ _ => 0) := fun _ _ => BtAt.nil w _

/-- Its bytes as a text. -/
def byL (n : Nat) (f : Nat → Int) : List Int := (List.range n).map f
theorem byL_len (n : Nat) (f : Nat → Int) : (byL n f).length = n := by simp [byL]
theorem byL_at {n : Nat} (f : Nat → Int) {i : Nat} (h : i < n) : (byL n f).getD i 0 = f i := by simp [byL, h]
def bySt (n : Nat) (f : Nat → Int) : ByteArray := strOfNums (byL n f)
theorem BtAt.text {w : World} {v : Value} {n : Nat} {f : Nat → Int} (h : BtAt w v n f) : (convert 26 9 v).run Try.prog w = .ok (.string (bySt n f)) w := by
  obtain ⟨p, c, rfl, hc, h⟩ := h
  by_cases h0 : n = 0
  · subst h0
    rw [run_convert_bytes_string w 26 9 5 p 0 c Try.underlying26 Try.underlying5 Try.underlying9]
    cases p <;> simp [Conv.bytesToString, loadCells]
    all_goals rfl
  · rcases h with h | ⟨b, o, rfl, h⟩
    · exact absurd h h0
    · exact run_convert_bytes_arg w 26 5 Try.underlying26 Try.underlying5 b o n c (byL n f) (byL_len n f) (fun i hi => by rw [byL_at f hi]; exact (h i hi).1) 9 Try.underlying9
/-- Are two the same? -/
def sameB (n : Nat) (f : Nat → Int) (m : Nat) (g : Nat → Int) : Bool := decide (n = m) && (List.range n).all fun i => f i == g i
theorem sameB_iff {n m : Nat} {f g : Nat → Int} : sameB n f m g = true ↔ n = m ∧ ∀ i, i < n → f i = g i := by simp [sameB]
theorem bySt_same {n m : Nat} {f g : Nat → Int} (hf : ∀ i, i < n → 0 ≤ f i ∧ f i ≤ 255) (hg : ∀ i, i < m → 0 ≤ g i ∧ g i ≤ 255) : bySt n f = bySt m g ↔ sameB n f m g = true := by
  rw [sameB_iff]
  constructor
  · intro h
    have e : (bySt n f).data.toList = (bySt m g).data.toList := by rw [h]
    unfold bySt at e
    rw [strOfNums_data, strOfNums_data] at e
    have hl : n = m := by simpa [byL] using congrArg List.length e
    subst hl
    refine ⟨rfl, fun i hi => ?_⟩
    have e2 := congrArg (fun l => l[i]?) e
    simp only [byL, List.map_map, List.getElem?_map, List.getElem?_range hi, Option.map_some, Option.some.injEq, Function.comp] at e2
    have e3 := congrArg UInt8.toNat e2
    have h1 := hf i hi
    have h2 := hg i hi
    rw [UInt8.toNat_ofNat', UInt8.toNat_ofNat', Nat.mod_eq_of_lt (by omega), Nat.mod_eq_of_lt (by omega)] at e3
    omega
  · rintro ⟨rfl, h⟩
    unfold bySt byL
    rw [List.map_congr_left fun i hi => h i (List.mem_range.1 hi)]
def sameF (k : Int) (n : Nat → Nat) (f : Nat → Nat → Int) (k' : Int) (n' : Nat → Nat) (f' : Nat → Nat → Int) : Bool :=
  decide (k = k') && (sameB (n 0) (f 0) (n' 0) (f' 0) && (sameB (n 1) (f 1) (n' 1) (f' 1) && sameB (n 2) (f 2) (n' 2) (f' 2)))
theorem sameF_iff {k k' : Int} {n n' : Nat → Nat} {f f' : Nat → Nat → Int} : sameF k n f k' n' f' = true ↔ k = k' ∧ ∀ p, p < 3 → sameB (n p) (f p) (n' p) (f' p) = true := by
  unfold sameF
  simp only [Bool.and_eq_true, decide_eq_true_iff]
  constructor
  · rintro ⟨rfl, h0, h1, h2⟩
    refine ⟨rfl, fun p hp => ?_⟩
    match p, hp with
    | 0, _ => exact h0
    | 1, _ => exact h1
    | 2, _ => exact h2
  · rintro ⟨rfl, h⟩
    exact ⟨rfl, h 0 (by omega), h 1 (by omega), h 2 (by omega)⟩
theorem sameF_self (k : Int) (n : Nat → Nat) (f : Nat → Nat → Int) : sameF k n f k n f = true := sameF_iff.2 ⟨rfl, fun _ _ => sameB_iff.2 ⟨rfl, fun _ _ => rfl⟩⟩
theorem sameF_congr {k : Int} {n n' : Nat → Nat} {f f' : Nat → Nat → Int} (hn : ∀ p, p < 3 → n p = n' p) (h : ∀ p, p < 3 → ∀ j, j < n p → f p j = f' p j) : sameF k n f k n' f' = true :=
  sameF_iff.2 ⟨rfl, fun p hp => sameB_iff.2 ⟨hn p hp, h p hp⟩⟩

/-! ### Those of the call's own -/
def OwnPl (w : World) (v : Value) (g n : Nat) (f : Nat → Int) : Prop := ∃ c, v = .slice (some ⟨g, 0, none⟩) n c ∧ n ≤ c ∧ ∀ i, i < n → w.cell? ⟨g, i, none⟩ = some (.int .u8 (f i)) ∧ w.frozen? ⟨g, i, none⟩ = false ∧ 0 ≤ f i ∧ f i ≤ 255
section
variable {w w' : World} {v : Value} {g n : Nat} {f : Nat → Int}
theorem OwnPl.at (h : OwnPl w v g n f) : BtAt w v n f := by
  obtain ⟨c, rfl, hc, h⟩ := h
  exact ⟨_, c, rfl, hc, .inr ⟨g, 0, rfl, fun i hi => ⟨by rw [Nat.zero_add]; exact (h i hi).1, (h i hi).2.2⟩⟩⟩
theorem OwnPl.one (h : OwnPl w v g n f) : v.oneCell' = true := h.at.one
theorem OwnPl.lt (h : OwnPl w v g n f) (hn : 0 < n) : g < w.heap.size := by
  obtain ⟨c, rfl, hc, h⟩ := h
  exact World.block_lt_of_cell? w ⟨g, 0, none⟩ (h 0 hn).1
theorem OwnPl.keep (h : OwnPl w v g n f) (hk : w'.heap[g]? = w.heap[g]?) : OwnPl w' v g n f := by
  obtain ⟨c, rfl, hc, h⟩ := h
  refine ⟨c, rfl, hc, fun i hi => ?_⟩
  obtain ⟨h1, h2, h3⟩ := h i hi
  exact ⟨(World.cell?_of_block (a := ⟨g, i, none⟩) hk).trans h1, (World.frozen?_of_block (a := ⟨g, i, none⟩) hk).trans h2, h3⟩
theorem OwnPl.congr (h : OwnPl w v g n f) {f' : Nat → Int} (hf : ∀ i, i < n → f i = f' i) : OwnPl w v g n f' := by
  obtain ⟨c, rfl, hc, h⟩ := h
  refine ⟨c, rfl, hc, fun i hi => ?_⟩
  rw [← hf i hi]
  exact h i hi
/-- One byte anew. -/
theorem OwnPl.set (h : OwnPl w v g n f) (i : Nat) (x : Int) (hx : 0 ≤ x ∧ x ≤ 255) (hi : i < n) : OwnPl (w.setCell ⟨g, i, none⟩ (.int .u8 x)) v g n (fun j => if j = i then x else f j) := by
  obtain ⟨c, rfl, hc, h⟩ := h
  refine ⟨c, rfl, hc, fun j hj => ?_⟩
  obtain ⟨h1, h2, h3⟩ := h j hj
  rw [World.frozen?_setCell]
  show _ = some (Value.int .u8 (if j = i then x else f j)) ∧ _ ∧ 0 ≤ (if j = i then x else f j) ∧ (if j = i then x else f j) ≤ 255
  by_cases e : j = i
  · subst e
    rw [if_pos rfl]
    exact ⟨World.cell?_setCell_same _ _ _ h1, h2, hx⟩
  · rw [if_neg e]
    exact ⟨(World.cell?_setCell_other _ _ _ _ (by intro e2; injection e2 with _ e2; exact e e2.symm)).trans h1, h2, h3⟩
/-- Some bytes anew, one behind the other. -/
theorem OwnPl.sets (h : OwnPl w v g n f) (o m : Nat) (r : Nat → Int) (hr : ∀ i, i < m → 0 ≤ r i ∧ r i ≤ 255) (hi : o + m ≤ n) : OwnPl (w.setCells g o ((byL m r).map (Value.int .u8))) v g n (fun j => if o ≤ j ∧ j < o + m then r (j - o) else f j) := by
  obtain ⟨c, rfl, hc, h⟩ := h
  have hl : ((byL m r).map (Value.int .u8)).length = m := by rw [List.length_map, byL_len]
  refine ⟨c, rfl, hc, fun j hj => ?_⟩
  obtain ⟨h1, h2, h3⟩ := h j hj
  rw [World.frozen?_setCells]
  show _ = some (Value.int .u8 (if o ≤ j ∧ j < o + m then r (j - o) else f j)) ∧ _ ∧ 0 ≤ (if o ≤ j ∧ j < o + m then r (j - o) else f j) ∧ (if o ≤ j ∧ j < o + m then r (j - o) else f j) ≤ 255
  by_cases e : o ≤ j ∧ j < o + m
  · rw [if_pos e]
    obtain ⟨d, rfl⟩ : ∃ d, j = o + d := ⟨j - o, by omega⟩
    rw [World.cell?_setCells_in g _ o w (fun i hi2 => by rw [hl] at hi2; rw [(h (o + i) (by omega)).1]; rfl) d (by rw [hl]; omega)]
    rw [Nat.add_sub_cancel_left]
    exact ⟨by simp [byL], h2, hr d (by omega)⟩
  · rw [if_neg e, World.cell?_setCells_out g _ o w _ (fun _ _ => by rw [hl]; show j < o ∨ o + m ≤ j; omega)]
    exact ⟨h1, h2, h3⟩
end
theorem setCells_size (b : Nat) : ∀ (vs : List Value) (o : Nat) (w : World), (w.setCells b o vs).heap.size = w.heap.size
  | [], _, _ => rfl
  | v :: r, o, w => by rw [World.setCells, setCells_size b r]; simp [World.setCell]
theorem setCells_block (b : Nat) : ∀ (vs : List Value) (o : Nat) (w : World) (k : Nat), k ≠ b → (w.setCells b o vs).heap[k]? = w.heap[k]?
  | [], _, _, _, _ => rfl
  | v :: r, o, w, k, h => by rw [World.setCells, setCells_block b r _ _ _ h]; exact heap_setCell_other w ⟨b, o, none⟩ k v h
theorem setCells_grown (b : Nat) : ∀ (vs : List Value) (o : Nat) (w : World), w.grownBy (w.setCells b o vs) (some b)
  | [], _, _ => ⟨rfl, rfl, rfl, Nat.le_refl _, fun _ _ _ => rfl⟩
  | v :: r, o, w => grown_trans (grownBy_setCell w ⟨b, o, none⟩ v) (setCells_grown b r (o + 1) _)

/-- Three planes in blocks of the call's own, apart from each other. -/
structure OwnFr (w : World) (lo : Nat) (v : Nat → Value) (g n : Nat → Nat) (f : Nat → Nat → Int) : Prop where
  pl : ∀ p, p < 3 → OwnPl w (v p) (g p) (n p) (f p)
  from_ : ∀ p, p < 3 → lo ≤ g p
  apart : ∀ p q, p < 3 → q < 3 → p ≠ q → g p ≠ g q
section
variable {w w' : World} {lo : Nat} {v : Nat → Value} {g n : Nat → Nat} {f f' : Nat → Nat → Int}
theorem OwnFr.at (h : OwnFr w lo v g n f) : FrAt w v n f := fun p hp => (h.pl p hp).at
theorem OwnFr.keep (h : OwnFr w lo v g n f) (hk : ∀ p, p < 3 → w'.heap[g p]? = w.heap[g p]?) : OwnFr w' lo v g n f := ⟨fun p hp => (h.pl p hp).keep (hk p hp), h.from_, h.apart⟩
theorem OwnFr.congr (h : OwnFr w lo v g n f) (hf : ∀ p, p < 3 → ∀ i, i < n p → f p i = f' p i) : OwnFr w lo v g n f' := ⟨fun p hp => (h.pl p hp).congr (hf p hp), h.from_, h.apart⟩
theorem OwnFr.mono (h : OwnFr w lo v g n f) {lo' : Nat} (hl : lo' ≤ lo) : OwnFr w lo' v g n f := ⟨h.pl, fun p hp => Nat.le_trans hl (h.from_ p hp), h.apart⟩
theorem OwnFr.ones (h : OwnFr w lo v g n f) : ∀ p, p < 3 → (v p).oneCell' = true := fun p hp => (h.pl p hp).one
theorem OwnFr.below (h : OwnFr w lo v g n f) (hn : ∀ p, p < 3 → 0 < n p) (hb : Below w.heap.size w w') : OwnFr w' lo v g n f := h.keep fun p hp => hb.block _ ((h.pl p hp).lt (hn p hp))
theorem OwnFr.set (h : OwnFr w lo v g n f) {p : Nat} (hp : p < 3) (i : Nat) (x : Int) (hx : 0 ≤ x ∧ x ≤ 255) (hi : i < n p) : OwnFr (w.setCell ⟨g p, i, none⟩ (.int .u8 x)) lo v g n (fun q j => if q = p ∧ j = i then x else f q j) := by
  refine ⟨fun q hq => ?_, h.from_, h.apart⟩
  by_cases e : q = p
  · subst e
    refine ((h.pl q hq).set i x hx hi).congr fun j _ => ?_
    by_cases e2 : j = i <;> simp [e2]
  · refine ((h.pl q hq).keep (heap_setCell_other w ⟨g p, i, none⟩ (g q) _ (h.apart q p hq hp e))).congr fun j _ => ?_
    show f q j = (if q = p ∧ j = i then x else f q j)
    rw [if_neg (by intro e2; exact e e2.1)]
theorem OwnFr.sets (h : OwnFr w lo v g n f) {p : Nat} (hp : p < 3) (o m : Nat) (r : Nat → Int) (hr : ∀ i, i < m → 0 ≤ r i ∧ r i ≤ 255) (hi : o + m ≤ n p) : OwnFr (w.setCells (g p) o ((byL m r).map (Value.int .u8))) lo v g n (fun q j => if q = p ∧ o ≤ j ∧ j < o + m then r (j - o) else f q j) := by
  refine ⟨fun q hq => ?_, h.from_, h.apart⟩
  by_cases e : q = p
  · subst e
    refine ((h.pl q hq).sets o m r hr hi).congr fun j _ => ?_
    show (if o ≤ j ∧ j < o + m then r (j - o) else f q j) = (if q = q ∧ o ≤ j ∧ j < o + m then r (j - o) else f q j)
    by_cases e2 : o ≤ j ∧ j < o + m
    · rw [if_pos e2, if_pos ⟨rfl, e2⟩]
    · rw [if_neg e2, if_neg (fun e3 => e2 e3.2)]
  · refine ((h.pl q hq).keep (setCells_block (g p) _ o w (g q) (h.apart q p hq hp e))).congr fun j _ => ?_
    show f q j = (if q = p ∧ o ≤ j ∧ j < o + m then r (j - o) else f q j)
    rw [if_neg (by intro e2; exact e e2.1)]
end

/-- Of the blocks that were there at most three have turned. -/
structure Keeps (g : Nat → Nat) (w w' : World) : Prop where
  os : w'.os = w.os
  tape : w'.tape = w.tape
  output : w'.output = w.output
  size : w.heap.size ≤ w'.heap.size
  block : ∀ k, k < w.heap.size → (∀ p, p < 3 → k ≠ g p) → w'.heap[k]? = w.heap[k]?
theorem Keeps.refl (g : Nat → Nat) (w : World) : Keeps g w w := ⟨rfl, rfl, rfl, Nat.le_refl _, fun _ _ _ => rfl⟩
theorem Keeps.trans {g : Nat → Nat} {a b c : World} (h : Keeps g a b) (k : Keeps g b c) : Keeps g a c :=
  ⟨k.os.trans h.os, k.tape.trans h.tape, k.output.trans h.output, Nat.le_trans h.size k.size, fun i hi hn => (k.block i (Nat.lt_of_lt_of_le hi h.size) hn).trans (h.block i hi hn)⟩
theorem Keeps.of_below {g : Nat → Nat} {a b : World} (h : Below a.heap.size a b) : Keeps g a b := ⟨h.os, h.tape, h.output, h.size, fun i hi _ => h.block i hi⟩
theorem Keeps.of_grown {g : Nat → Nat} {a b : World} {r p : Nat} (hp : p < 3) (hr : r = g p) (h : a.grownBy b (some r)) : Keeps g a b :=
  ⟨h.os, h.tape, h.output, h.size, fun i hi hn => h.block i hi (by intro e; injection e with e; exact hn p hp (e.trans hr))⟩
theorem Keeps.to_below {g : Nat → Nat} {B : Nat} {a b : World} (h : Keeps g a b) (hB : B ≤ a.heap.size) (hg : ∀ p, p < 3 → B ≤ g p) : Below B a b :=
  ⟨h.os, h.tape, h.output, h.size, fun i hi => h.block i (by omega) (fun p hp => by have := hg p hp; omega)⟩
end Go.Proofs.Ytnpmllbdpmkliaa
