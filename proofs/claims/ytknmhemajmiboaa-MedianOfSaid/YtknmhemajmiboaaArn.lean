/- Arrays of n int, of any type of them: as values, as they lie in a block, indexed, made, stored. No condition. -/
import Derived.Test.YtknmhemajmiboaaArr
import Derived.Deep.WholeRow
namespace Go.Proofs.Ytknmhemajmiboaa
open Go.RowKit Go.Lib Go.ChangeShapes Go.WideShapes Go.ChangeAt

def arn (n : Nat) (f : Nat → Int) : Array Value := ((List.range n).map fun i => .int .i64 (f i)).toArray
theorem arn_64 (f : Nat → Int) : arn 64 f = arrA f := rfl
theorem arn_size (n : Nat) (f : Nat → Int) : (arn n f).size = n := by simp [arn]
theorem arn_at {n : Nat} (f : Nat → Int) {i : Nat} (h : i < n) : (arn n f)[i]? = some (.int .i64 (f i)) := by simp [arn, h]
theorem arn_one (n : Nat) (f : Nat → Int) : (arn n f).all (·.oneCell') = true := by
  rw [Array.all_eq_true_iff_forall_mem]
  intro v hv
  obtain ⟨i, _, rfl⟩ := List.mem_map.1 (by simpa [arn] using hv : v ∈ (List.range n).map fun i => Value.int .i64 (f i))
  rfl
theorem arn_congr {n : Nat} {f g : Nat → Int} (h : ∀ i, i < n → f i = g i) : arn n f = arn n g := by
  unfold arn
  congr 1
  refine List.map_congr_left fun i hi => ?_
  rw [h i (List.mem_range.1 hi)]
theorem arn_set {n : Nat} (f : Nat → Int) (i : Nat) (v : Int) : (arn n f).setIfInBounds i (.int .i64 v) = arn n (setF f i v) := by
  apply Array.ext'
  refine List.ext_getElem? fun k => ?_
  by_cases e : i = k
  · subst e
    by_cases hk : i < n <;> simp [arn, setF, hk]
  · by_cases hk : k < n
    · have hne : ¬ k = i := fun h => e h.symm
      simp [arn, setF, hk, e, hne]
    · simp [arn, hk]
section
variable {P : Program} {T E : TypeId} {n : Nat}
theorem arn_sized (h : (P.info? T).map (·.size) = some n) (f : Nat → Int) : (P.info? T).map (·.size) = some (arn n f).size := by rw [arn_size]; exact h
theorem arn_index {I : TypeInfo} (hT : P.underlying T = some (.array n E)) (hI : P.info? E = some I) (hc : P.cellsOf E = 1) (hp : P.plainKey E = true) (f : Nat → Int) {i : Nat} (h : i < n) (w : World) : (Instr.index T (.agg (arn n f)) (.int .i64 (i : Int))).run P w = .ok (.int .i64 (f i)) w := by
  have h1 : (0 : Int) ≤ (i : Int) ∧ (i : Int) < ((n : Nat) : Int) := by omega
  simp only [Instr.index, asIntOf, Sem.run_bind, Sem.run_pure, Result.andThen_ok, run_underlying hT, if_pos h1, run_sizeOf w hI, hc, Nat.mul_one, Int.toNat_natCast]
  exact run_part_plain w hp (arn_at f h)
theorem arn_zero (h : (P.info? T).map (fun i => i.zero) = some (some (.agg (arn n fun _ => 0)))) (w : World) : (zeroValue T).run P w = .ok (.agg (arn n fun _ => 0)) w := by
  generalize (arn n fun _ => 0) = Z at h ⊢
  cases hq : P.info? T with
  | none => simp [hq] at h
  | some i =>
    simp [hq] at h
    simp [zeroValue, typeInfo, hq, h]
end
/-! ### How they lie -/
def arnO (T : TypeId) (n : Nat) (f : Nat → Int) : Obj := .cells (arn n f) T (0, 0)
theorem arn_cell {w : World} {B i n : Nat} {T : TypeId} {f : Nat → Int} (h : w.heap[B]? = some (arnO T n f)) (hi : i < n) : w.cell? ⟨B, i, none⟩ = some (.int .i64 (f i)) := by
  rw [cell_of_row w B i _ _ _ h]
  exact arn_at f hi
theorem arn_free {w : World} {B i n : Nat} {T : TypeId} {f : Nat → Int} (h : w.heap[B]? = some (arnO T n f)) : w.frozen? ⟨B, i, none⟩ = false := frozen_of_row w B i _ _ h
theorem arn_put {w : World} {B i n : Nat} {T : TypeId} {f : Nat → Int} (v : Int) (h : w.heap[B]? = some (arnO T n f)) : (w.setCell ⟨B, i, none⟩ (.int .i64 v)).heap[B]? = some (arnO T n (setF f i v)) := by
  rw [heap_setCell_same w B i _ _ _ h]
  unfold arnO
  rw [arn_set]
/-- What a call that answers an array gives. -/
def ArnGives (n : Nat) (g : Nat → Int) (w : World) (e : Ending) (w' : World) : Prop := e = .returned (.agg (arn n g)) ∧ Below w.heap.size w w'
theorem arn_gives {n : Nat} {g h : Nat → Int} {w w' : World} {Z : Array Value} (hg : ∀ i, i < n → h i = g i) (hZ : arn n h = Z) (hb : Below w.heap.size w w') : ArnGives n g w (.returned (.agg Z)) w' := by
  unfold ArnGives
  rw [← hZ, arn_congr hg]
  exact ⟨rfl, hb⟩
theorem putS_most (n : Nat) (g : Nat → Int) : ∀ p, p < n → putS g n p = g p := by
  intro p hp
  rw [putS_at, if_pos hp]
/-- A number put where 0 stands. -/
theorem putS_none (g : Nat → Int) (u : Nat) : ∀ p, setF (putS g u) u 0 p = putS g u p := by
  intro p
  unfold setF
  by_cases e : p = u
  · subst e
    rw [if_pos rfl, putS_at, if_neg (by omega)]
  · rw [if_neg e]
theorem setF_twice (f : Nat → Int) (i : Nat) (x y : Int) : setF (setF f i x) i y = setF f i y := by
  funext p
  unfold setF
  by_cases e : p = i
  · rw [if_pos e, if_pos e]
  · rw [if_neg e, if_neg e, if_neg e]
theorem setF_at (f : Nat → Int) (i : Nat) (x : Int) : setF f i x i = x := by
  unfold setF
  rw [if_pos rfl]
/-- A whole array stored into the block that was made last. -/
theorem wp_store_fresh {P : Program} {ops : Array Oper} {rest : List Oper} {op : Oper} {a : Act} {w : World} {Q : Exit → Act → World → Prop} (hgd : op.guard = none) (ty : TypeId) (x y : Operand) (ho : op.op = .store ty x y)
    (Z old : Array Value) (T : TypeId) (hx : a.eval x = .pointer (some ⟨w.heap.size, 0, none⟩)) (hy : a.eval y = .agg Z) (hi : (P.info? ty).map (·.size) = some Z.size) (hs : old.size = Z.size) (h1 : Z.all (·.oneCell') = true)
    (h : wpList P ops Q rest (a.put op.dst undef) (w.alloc (.cells Z T (0, 0)))) : wpList P ops Q (op :: rest) a (w.alloc (.cells old T (0, 0))) := by
  refine wpList_store_row hgd ty x y ho w.heap.size Z hx hy T old (heap_alloc_last w _) hi hs h1 ?_
  rw [World.setRow_alloc_new]
  exact h
/-- Blocks made one behind the other. -/
theorem laid2 (w : World) (o1 o2 : Obj) : ∃ (B : Nat) (wA wB : World), w.heap.size = B ∧ w.alloc o1 = wA ∧ wA.alloc o2 = wB ∧ wA.heap.size = B + 1 ∧ wB.heap.size = B + 2 ∧ wB.heap[B]? = some o1 ∧ wB.heap[B + 1]? = some o2 ∧ Below B w wB :=
  ⟨_, _, _, rfl, rfl, rfl, by simp, by simp, heap_keep (heap_alloc_new w _), by simpa using heap_alloc_new (w.alloc o1) o2, ((Below.refl _ w).alloc (Nat.le_refl _) _).alloc (by simp) _⟩
theorem laid3 (w : World) (o1 o2 o3 : Obj) : ∃ (B : Nat) (wA wB wC : World), w.heap.size = B ∧ w.alloc o1 = wA ∧ wA.alloc o2 = wB ∧ wB.alloc o3 = wC ∧ wA.heap.size = B + 1 ∧ wB.heap.size = B + 2 ∧ wC.heap.size = B + 3 ∧ wC.heap[B]? = some o1 ∧ wC.heap[B + 1]? = some o2 ∧ wC.heap[B + 2]? = some o3 ∧ Below B w wC :=
  ⟨_, _, _, _, rfl, rfl, rfl, rfl, by simp, by simp, by simp, heap_keep (heap_keep (heap_alloc_new w _)), heap_keep (by simpa using heap_alloc_new (w.alloc o1) o2), by simpa using heap_alloc_new ((w.alloc o1).alloc o2) o3, (((Below.refl _ w).alloc (Nat.le_refl _) _).alloc (by simp) _).alloc (by simp; omega) _⟩
end Go.Proofs.Ytknmhemajmiboaa
