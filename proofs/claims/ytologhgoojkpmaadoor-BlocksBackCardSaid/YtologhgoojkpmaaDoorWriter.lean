/- How a Writer of package outbits lies in memory: its own block, and behind it the chain of its full pieces; what keeps it. -/
import Derived.Test.YtologhgoojkpmaaDoorRunes
import Derived.Test.YtologhgoojkpmaaDoorBytes
import Derived.Test.YtologhgoojkpmaaDoorRegion
namespace Go.Proofs.YtologhgoojkpmaaDoor
open Go.RowKit

/-- The 256 bytes of piece k, as cells. -/
def pieceCells (r : List UInt8) (k : Nat) : List Value := (List.range 256).map fun i => Value.int .u8 ((byteAt r (256 * k + i) : Nat) : Int)
theorem pieceCells_length (r : List UInt8) (k : Nat) : (pieceCells r k).length = 256 := by simp [pieceCells]
theorem pieceCells_get (r : List UInt8) (k i : Nat) (h : i < 256) : (pieceCells r k)[i]? = some (.int .u8 ((byteAt r (256 * k + i) : Nat) : Int)) := by
  simp [pieceCells, h]
theorem pieceCells_one (r : List UInt8) (k : Nat) : ∀ v ∈ pieceCells r k, v.oneCell' = true := by
  intro v hv
  obtain ⟨_, _, rfl⟩ := List.mem_map.1 hv
  rfl
theorem pieceCells_same (r s : List UInt8) (k : Nat) (h : ∀ i, i < 256 → byteAt r (256 * k + i) = byteAt s (256 * k + i)) : pieceCells r k = pieceCells s k := by
  unfold pieceCells
  apply List.map_congr_left
  intro i hi
  rw [h i (List.mem_range.1 hi)]
theorem pieceCells_keep (r e : List UInt8) (k : Nat) (h : 2048 * (k + 1) ≤ r.length) : pieceCells (r ++ e) k = pieceCells r k :=
  pieceCells_same _ _ _ fun i hi => byteAt_keep r e _ (by omega)
theorem pieceCells_over (r : List UInt8) (k : Nat) (h : r.length ≤ 2048 * k) : pieceCells r k = List.replicate 256 (.int .u8 0) := by
  unfold pieceCells
  rw [List.eq_replicate_iff]
  refine ⟨by simp, fun v hv => ?_⟩
  obtain ⟨i, _, rfl⟩ := List.mem_map.1 hv
  rw [byteAt_over r _ (by omega)]
  rfl

/-- The chain of k full pieces, the newest first, in blocks from B on. -/
def Chain (w : World) (B : Nat) (r : List UInt8) : Nat → Value → Prop
  | 0, v => v = .pointer none
  | k + 1, v => ∃ g v', v = .pointer (some ⟨g, 0, none⟩) ∧ B ≤ g ∧ w.heap[g]? = some (.cells (v' :: pieceCells r k).toArray 66 (0, 0)) ∧ Chain w B r k v'
theorem Chain.kept {w w' : World} {B : Nat} {r : List UInt8} (h : ∀ g cs T, B ≤ g → w.heap[g]? = some (.cells cs T (0, 0)) → w'.heap[g]? = some (.cells cs T (0, 0))) : ∀ {k : Nat} {v : Value}, Chain w B r k v → Chain w' B r k v
  | 0, _, c => c
  | _ + 1, _, ⟨g, v', e, hg, hh, c⟩ => ⟨g, v', e, hg, h g _ _ hg hh, c.kept h⟩
theorem Chain.more {w : World} {B : Nat} {r : List UInt8} (e : List UInt8) : ∀ {k : Nat} {v : Value}, 2048 * k ≤ r.length → Chain w B r k v → Chain w B (r ++ e) k v
  | 0, _, _, c => c
  | k + 1, _, h, ⟨g, v', e1, hg, hh, c⟩ => ⟨g, v', e1, hg, by rw [pieceCells_keep r e k h]; exact hh, c.more e (by omega)⟩
theorem Chain.pointer {w : World} {B : Nat} {r : List UInt8} {k : Nat} {v : Value} (h : Chain w B r k v) : ∃ p, v = .pointer p := by
  cases k with
  | zero => exact ⟨none, h⟩
  | succ k => obtain ⟨g, v', e, _⟩ := h; exact ⟨_, e⟩

/-- A Writer's cells: its newest full piece, the bytes from piece k on, how many bits. -/
def midCells (r : List UInt8) (v : Value) (k : Nat) : List Value := v :: (pieceCells r k ++ [.int .i64 (r.length : Int)])
def wrCells (r : List UInt8) (v : Value) : List Value := midCells r v (r.length / 2048)
theorem midCells_length (r : List UInt8) (v : Value) (k : Nat) : (midCells r v k).length = 258 := by simp [midCells, pieceCells_length]
theorem wrCells_length (r : List UInt8) (v : Value) : (wrCells r v).length = 258 := midCells_length _ _ _
theorem midCells_bits (r : List UInt8) (v : Value) (k : Nat) : (midCells r v k)[257]? = some (.int .i64 (r.length : Int)) := by
  unfold midCells
  rw [List.getElem?_cons_succ, List.getElem?_append_right (by rw [pieceCells_length]; omega), pieceCells_length]
  rfl
theorem midCells_last (r : List UInt8) (v : Value) (k i : Nat) (h : i < 256) : (midCells r v k)[1 + i]? = some (.int .u8 ((byteAt r (256 * k + i) : Nat) : Int)) := by
  unfold midCells
  rw [Nat.add_comm, List.getElem?_cons_succ, List.getElem?_append_left (by rw [pieceCells_length]; omega), pieceCells_get _ _ _ h]

/-- Block b is a Writer that holds row r, its pieces in blocks from B on. -/
def IsWr (w : World) (B b : Nat) (r : List UInt8) : Prop :=
  isRow r = true ∧ b < B ∧ ∃ v, w.heap[b]? = some (.cells (wrCells r v).toArray 54 (0, 0)) ∧ Chain w B r (r.length / 2048) v

theorem IsWr.kept {w w' : World} {B b : Nat} {r : List UInt8} (h : IsWr w B b r) (hb : ∀ cs T, w.heap[b]? = some (.cells cs T (0, 0)) → w'.heap[b]? = some (.cells cs T (0, 0)))
    (hc : ∀ g cs T, B ≤ g → w.heap[g]? = some (.cells cs T (0, 0)) → w'.heap[g]? = some (.cells cs T (0, 0))) : IsWr w' B b r := by
  obtain ⟨h1, h2, v, h3, h4⟩ := h
  exact ⟨h1, h2, v, hb _ _ h3, h4.kept hc⟩
theorem IsWr.lt {w : World} {B b : Nat} {r : List UInt8} (h : IsWr w B b r) : b < w.heap.size := by
  obtain ⟨_, _, v, h3, _⟩ := h
  exact (Array.getElem?_eq_some_iff.1 h3).1
/-- Another block's writes, and new blocks, leave it as it is. -/
theorem IsWr.grown {w w' : World} {B b c : Nat} {r : List UInt8} (h : IsWr w B b r) (hg : w.grownBy w' (some c)) (hne : b ≠ c) (hc : c < B) : IsWr w' B b r :=
  h.kept (fun _ _ ho => by rw [hg.block b (Array.getElem?_eq_some_iff.1 ho).1 (by simpa using hne)]; exact ho)
    (fun g _ _ hB ho => by rw [hg.block g (Array.getElem?_eq_some_iff.1 ho).1 (by simp; omega)]; exact ho)
theorem IsWr.below {w w' : World} {B b : Nat} {r : List UInt8} (h : IsWr w B b r) (hb : Below w.heap.size w w') : IsWr w' B b r :=
  h.kept (fun _ _ ho => by rw [hb.block b (Array.getElem?_eq_some_iff.1 ho).1]; exact ho) (fun g _ _ _ ho => by rw [hb.block g (Array.getElem?_eq_some_iff.1 ho).1]; exact ho)

/-- One digit behind the others. -/
theorem set_nought (r : List UInt8) (v : Value) (k : Nat) : (midCells r v k).set 257 (.int .i64 ((r.length : Int) + 1)) = midCells (r ++ [48]) v k := by
  unfold midCells
  rw [List.set_cons_succ, List.set_append_right _ _ (by rw [pieceCells_length]; omega), pieceCells_length, pieceCells_same (r ++ [48]) r _ fun i _ => byteAt_nought r _, List.length_append]
  rfl
theorem set_last (r s : List UInt8) (k i : Nat) (hi : i < 256) (x : Nat) (hx : byteAt s (256 * k + i) = x) (h : ∀ j, j < 256 → j ≠ i → byteAt s (256 * k + j) = byteAt r (256 * k + j)) :
    (pieceCells r k).set i (.int .u8 (x : Int)) = pieceCells s k := by
  apply List.ext_getElem?
  intro j
  by_cases hj : j < 256
  · rw [pieceCells_get s k j hj]
    by_cases e : i = j
    · subst e
      rw [List.getElem?_set_self (by rw [pieceCells_length]; exact hi), hx]
    · rw [List.getElem?_set_ne e, pieceCells_get r k j hj, h j hj (fun e' => e e'.symm)]
  · rw [List.getElem?_eq_none (by rw [List.length_set, pieceCells_length]; omega), List.getElem?_eq_none (by rw [pieceCells_length]; omega)]
theorem place_split (n : Nat) : 256 * (n / 2048) + n % 2048 / 8 = n / 8 := by omega
theorem set_one (r : List UInt8) (v : Value) :
    ((midCells r v (r.length / 2048)).set (1 + r.length % 2048 / 8) (.int .u8 ((byteAt r (r.length / 8) + 2 ^ (7 - r.length % 8) : Nat) : Int))).set 257 (.int .i64 ((r.length : Int) + 1)) = midCells (r ++ [49]) v (r.length / 2048) := by
  unfold midCells
  rw [Nat.add_comm 1, List.set_cons_succ, List.set_append_left _ _ (by rw [pieceCells_length]; omega), List.set_cons_succ, List.set_append_right _ _ (by rw [List.length_set, pieceCells_length]; omega), List.length_set, pieceCells_length,
    List.length_append, List.length_singleton,
    set_last r (r ++ [49]) _ _ (by omega) _ (by rw [place_split, byteAt_one]) (fun j hj hne => byteAt_add_other r 49 _ (by omega))]
  rfl
/-- A Writer whose piece did not fill up. -/
theorem mid_open (r : List UInt8) (d : UInt8) (v : Value) (h : r.length % 2048 ≠ 2047) : midCells (r ++ [d]) v (r.length / 2048) = wrCells (r ++ [d]) v := by
  unfold wrCells
  rw [List.length_append, List.length_singleton, show (r.length + 1) / 2048 = r.length / 2048 by omega]
/-- A Writer whose piece has just been laid behind it. -/
theorem mid_full (r : List UInt8) (d : UInt8) (v : Value) (h : r.length % 2048 = 2047) : wrCells (r ++ [d]) v = v :: (List.replicate 256 (.int .u8 0) ++ [.int .i64 (((r ++ [d]).length : Nat) : Int)]) := by
  unfold wrCells midCells
  rw [pieceCells_over _ _ (by rw [List.length_append, List.length_singleton]; omega)]
end Go.Proofs.YtologhgoojkpmaaDoor
