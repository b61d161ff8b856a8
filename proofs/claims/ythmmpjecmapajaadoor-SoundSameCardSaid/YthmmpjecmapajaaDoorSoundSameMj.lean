/- Texts that SoundSame's proof stands on, part 10 of 48. No condition of its own. -/
import Derived.Test.YthmmpjecmapajaaDoorSoundSameMa
import Derived.Test.YthmmpjecmapajaaDoorSoundSameMd
import Derived.Test.YthmmpjecmapajaaDoorSoundSameMg
import Derived.Test.YthmmpjecmapajaaDoorSoundSameMi
import Derived.WalkMore
import Derived.Test.YthmmpjecmapajaaDoorChecked
import Derived.Lib.Hide
import Derived.Below
import Derived.WalkKit
import Derived.OwnWalk
import Derived.IntWalk
import Derived.Laws.ResultCell
import Derived.Laws.Rows
import Derived.Laws.OwnMore
import Derived.Deep.AppendLies
import Derived.Maps.AppendAt
import Derived.ChangeKeysEq
import Derived.RegionTactic
namespace Go.Proofs.YthmmpjecmapajaaDoor
open Go.RowKit Go.Lib Go.ChangeShapes Go.WideShapes Go.ChangeAt
def rightT (run level : Int) : Bool := decide (0 ≤ run) && decide (run ≤ 63) && decide (-127 ≤ level) && decide (level ≤ 127) && !(level == 0)
theorem rightT_iff {run level : Int} : rightT run level = true ↔ 0 ≤ run ∧ run ≤ 63 ∧ -127 ≤ level ∧ level ≤ 127 ∧ level ≠ 0 := by
 unfold rightT
 simp [Bool.and_eq_true, and_assoc]
def evObj (last : Bool) (run level : Int) : Obj := .cells [.bool last, .int .i64 run, .int .i64 level].toArray 55 (0, 0)
theorem right_code (last : Bool) (run level : Int) (w : World) : Calls Tryd.prog 87 #[.agg #[.bool last, .int .i64 run, .int .i64 level]] w fun e w' => e = .returned (.bool (rightT run level)) ∧ Below w.heap.size w w' := by
 have hb : ∀ o, Below w.heap.size w (w.alloc o) := fun o => (Below.refl _ w).alloc (Nat.le_refl _) o
 have hT : rightT run level = (decide (0 ≤ run) && decide (run ≤ 63) && decide (-127 ≤ level) && decide (level ≤ 127) && !(level == 0)) := rfl
 have HT := Lib.hid hT
 clear hT
 cases g0 : decide (0 ≤ run)
 ·go_enter Tryd.func87, Tryd.ntmps87
  go_wp2
  go_ret
  exact ⟨ret_bool (by rw [HT.out, g0]; rfl), hb _⟩
 cases g1 : decide (run ≤ 63)
 ·go_enter Tryd.func87, Tryd.ntmps87
  go_wp2
  go_ret
  exact ⟨ret_bool (by rw [HT.out, g0, g1]; rfl), hb _⟩
 cases g2 : decide (-127 ≤ level)
 ·go_enter Tryd.func87, Tryd.ntmps87
  go_wp2
  go_ret
  exact ⟨ret_bool (by rw [HT.out, g0, g1, g2]; rfl), hb _⟩
 cases g3 : decide (level ≤ 127)
 ·go_enter Tryd.func87, Tryd.ntmps87
  go_wp2
  go_ret
  exact ⟨ret_bool (by rw [HT.out, g0, g1, g2, g3]; rfl), hb _⟩
 cases g4 : level == 0
 all_goals
  have g5 := Lib.hid (show (level != 0) = !(level == 0) from rfl)
  go_enter Tryd.func87, Tryd.ntmps87
  go_wp2
  go_ret
  exact ⟨ret_bool (by rw [HT.out, g5.out, g0, g1, g2, g3, g4]; rfl), hb _⟩
theorem ev_cells {x : World} {B : Nat} {last : Bool} {r v : Int} (h : x.heap[B]? = some (evObj last r v)) :
  x.cell? ⟨B, 0, none⟩ = some (.bool last) ∧ x.cell? ⟨B, 1, none⟩ = some (.int .i64 r) ∧ x.cell? ⟨B, 2, none⟩ = some (.int .i64 v) ∧ x.frozen? ⟨B, 0, none⟩ = false ∧ x.frozen? ⟨B, 1, none⟩ = false ∧ x.frozen? ⟨B, 2, none⟩ = false :=
 ⟨part_cells h rfl, part_cells h rfl, part_cells h rfl, part_free (o := 0) h, part_free (o := 1) h, part_free (o := 2) h⟩
theorem info_ev : (Tryd.prog.info? 55).map (fun i => (i.zero, i.size, i.bytes)) = some (some (.agg #[.bool false, .int .i64 0, .int .i64 0]), 3, 24) := by kernel_rfl
end Go.Proofs.YthmmpjecmapajaaDoor

namespace Go.Proofs.YthmmpjecmapajaaDoor
open Go.RowKit Go.Lib Go.ChangeShapes Go.WideShapes Go.ChangeAt
def arrL (f : Nat → Int) : List Value := (List.range 64).map fun i => .int .i64 (f i)
theorem arrL_len (f : Nat → Int) : (arrL f).length = 64 := by simp [arrL]
theorem arrL_at (f : Nat → Int) {i : Nat} (h : i < 64) : (arrL f)[i]? = some (.int .i64 (f i)) := by simp [arrL, h]
theorem arrL_one (f : Nat → Int) : ∀ v ∈ arrL f, v.oneCell' = true := by
 intro v hv
 obtain ⟨i, _, rfl⟩ := List.mem_map.1 hv
 rfl
def setF (f : Nat → Int) (i : Nat) (v : Int) : Nat → Int := fun k => if k = i then v else f k
theorem arrL_set (f : Nat → Int) {i : Nat} (v : Int) : (arrL f).set i (.int .i64 v) = arrL (setF f i v) := by
 refine List.ext_getElem? fun k => ?_
 rw [List.getElem?_set, arrL_len]
 by_cases hk : k < 64
 ·by_cases e : i = k
  ·subst e
   rw [if_pos rfl, if_pos hk, arrL_at _ hk]
   simp [setF]
  ·rw [if_neg e, arrL_at _ hk, arrL_at _ hk]
   unfold setF
   rw [if_neg (fun h => e h.symm)]
 ·by_cases e : i = k
  ·subst e
   rw [if_pos rfl, if_neg hk, List.getElem?_eq_none (by rw [arrL_len]; omega)]
  ·rw [if_neg e, List.getElem?_eq_none (by rw [arrL_len]; omega), List.getElem?_eq_none (by rw [arrL_len]; omega)]
def arrA (f : Nat → Int) : Array Value := (arrL f).toArray
theorem arrA_size (f : Nat → Int) : (arrA f).size = 64 := arrL_len f
theorem arrA_at (f : Nat → Int) {i : Nat} (h : i < 64) : (arrA f)[i]? = some (.int .i64 (f i)) := by
 unfold arrA
 rw [List.getElem?_toArray]
 exact arrL_at f h
theorem arrA_one (f : Nat → Int) : (arrA f).all (·.oneCell') = true := by
 rw [Array.all_eq_true_iff_forall_mem]
 intro v hv
 exact arrL_one f v (by simpa [arrA] using hv)
def arrO (f : Nat → Int) : Obj := .cells (arrA f) 95 (0, 0)
theorem arr_size : (Tryd.prog.info? 95).map (·.size) = some 64 := by kernel_rfl
theorem arr_sized (f : Nat → Int) : (Tryd.prog.info? 95).map (·.size) = some (arrA f).size := by rw [arrA_size]; exact arr_size
theorem int_info : ∃ i, Tryd.prog.info? 3 = some i := by
 cases h : Tryd.prog.info? 3 with
 | some i => exact ⟨i, rfl⟩
 | none =>
  have h2 : (Tryd.prog.info? 3).isSome = true := by kernel_rfl
  rw [h] at h2
  cases h2
theorem int_cells : Tryd.prog.cellsOf 3 = 1 := by kernel_rfl
theorem int_plain : Tryd.prog.plainKey 3 = true := by kernel_rfl
theorem arr_zero (w : World) : (zeroValue 95).run Tryd.prog w = .ok (.agg (arrA fun _ => 0)) w := by
 have h : (Tryd.prog.info? 95).map (fun i => i.zero) = some (some (.agg (arrA fun _ => 0))) := by kernel_rfl
 generalize (arrA fun _ => 0) = Z at h ⊢
 cases hq : Tryd.prog.info? 95 with
 | none => simp [hq] at h
 | some i =>
  simp [hq] at h
  simp [zeroValue, typeInfo, hq, h]
theorem arr_cell {w : World} {B i : Nat} {f : Nat → Int} (h : w.heap[B]? = some (arrO f)) (hi : i < 64) : w.cell? ⟨B, i, none⟩ = some (.int .i64 (f i)) := by
 rw [cell_of_row w B i _ _ _ h]
 exact arrA_at f hi
theorem arr_free {w : World} {B i : Nat} {f : Nat → Int} (h : w.heap[B]? = some (arrO f)) : w.frozen? ⟨B, i, none⟩ = false := frozen_of_row w B i _ _ h
theorem arr_put {w : World} {B i : Nat} {f : Nat → Int} (v : Int) (h : w.heap[B]? = some (arrO f)) : (w.setCell ⟨B, i, none⟩ (.int .i64 v)).heap[B]? = some (arrO (setF f i v)) := by
 rw [heap_setCell_same w B i _ _ _ h]
 unfold arrO
 rw [show (arrA f).setIfInBounds i (.int .i64 v) = arrA (setF f i v) by unfold arrA; rw [List.setIfInBounds_toArray, arrL_set]]
theorem wp_store_arr {P : Program} {ops : Array Oper} {rest : List Oper} {op : Oper} {a : Act} {w : World} {Q : Exit → Act → World → Prop} (hgd : op.guard = none) (ty : TypeId) (x y : Operand) (ho : op.op = .store ty x y)
  (b : Nat) (Z old : Array Value) (hx : a.eval x = .pointer (some ⟨b, 0, none⟩)) (hy : a.eval y = .agg Z) (T : TypeId) (hg : w.heap[b]? = some (.cells old T (0, 0))) (hi : (P.info? ty).map (·.size) = some Z.size) (hs : old.size = Z.size) (h1 : Z.all (·.oneCell') = true)
  (h : ∀ w', w'.heap[b]? = some (.cells Z T (0, 0)) → w.grownBy w' (some b) → wpList P ops Q rest (a.put op.dst undef) w') : wpList P ops Q (op :: rest) a w :=
 wpList_store_row hgd ty x y ho b Z hx hy T old hg hi hs h1 (h _ (setRow_heap w b old Z T (0, 0) hg) ⟨rfl, rfl, rfl, by simp, fun k _ hk => setRow_other w b k _ (by intro e; exact hk (by rw [e]))⟩)
theorem wpList_wanted_load {P : Program} {ops : Array Oper} {rest : List Oper} {o : Oper} {a : Act} {w : World} {Q : Exit → Act → World → Prop} (hw : Region.wanted o (yielded ops a.tmps) = true) (ty : TypeId) (x : Operand) (ho : o.op = .load ty x)
  (g : Nat) (hx : a.eval x = .pointer (some ⟨g, 0, none⟩)) (t : TypeId) (cs : Array Value) (fr : Nat × Nat) (d : TypeDesc) (hg : w.heap[g]? = some (.cells cs t fr))
  (hu : P.underlying ty = some d) (hd : (match d with | .struct _ | .array _ _ => true | _ => false) = true) (hi : (P.info? ty).map (·.size) = some cs.size)
  (h : wpList P ops Q rest (a.put o.dst (.agg cs)) w) : wpList P ops Q (o :: rest) a w := by
 unfold wpList
 rw [if_pos hw]
 exact .inl (wp_load_row ty x ho g hx t cs fr d hg hu hd hi h)
theorem wpList_wanted_build {P : Program} {ops : Array Oper} {rest : List Oper} {o : Oper} {a : Act} {w : World} {Q : Exit → Act → World → Prop} (hw : Region.wanted o (yielded ops a.tmps) = true) (t : TypeId) (parts : Array (Nat × Operand)) (ho : o.op = .build t parts)
  (d : Option Tmp) (hd : o.dst = d) (cells : Array Value) (hf : P.built t (parts.map fun (i, x) => (i, a.eval x)).toList = some cells)
  (h : wpList P ops Q rest (a.put d (.agg cells)) w) : wpList P ops Q (o :: rest) a w := by
 subst hd
 unfold wpList
 rw [if_pos hw]
 exact .inl (wp_build t parts ho (by rw [hf]; rfl) (by rw [hf]; exact h))
section
variable {H : Type} {enc : TypeId × Value → H} {P : Program}
end
end Go.Proofs.YthmmpjecmapajaaDoor

namespace Go.Proofs.YthmmpjecmapajaaDoor
open Go.RowKit
abbrev Ev := Bool × Int × Int
def encV (x : Ev) : List Value := [.bool x.1, .int .i64 x.2.1, .int .i64 x.2.2]
def cellsV (l : List Ev) : List Value := l.flatMap encV
theorem cellsV_len (l : List Ev) : (cellsV l).length = 3 * l.length := by
 induction l with
 | nil => rfl
 | cons x l ih => rw [cellsV, List.flatMap_cons, List.length_append, show (List.flatMap encV l).length = 3 * l.length from ih]; simp [encV]; omega
theorem cellsV_at (l : List Ev) : ∀ (i : Nat) (h : i < l.length), (cellsV l)[3 * i]? = some (.bool l[i].1) ∧ (cellsV l)[3 * i + 1]? = some (.int .i64 l[i].2.1) ∧ (cellsV l)[3 * i + 2]? = some (.int .i64 l[i].2.2) := by
 induction l with
 | nil => intro i h; cases h
 | cons p l ih =>
  intro i h
  match i with
  | 0 => exact ⟨rfl, rfl, rfl⟩
  | i + 1 =>
   have := ih i (by simpa using h)
   rw [cellsV, List.flatMap_cons, show 3 * (i + 1) = (encV p).length + 3 * i by simp [encV]; omega]
   rw [List.getElem?_append_right (by omega), Nat.add_sub_cancel_left, Nat.add_assoc, Nat.add_assoc, List.getElem?_append_right (by omega), List.getElem?_append_right (by omega), Nat.add_sub_cancel_left, Nat.add_sub_cancel_left]
   exact this
def evs (f : Nat → Int) (a : Nat) : Nat → List Ev × Nat
 | 0 => ([], 0)
 | k + 1 => if k < a then evs f a k else if f k = 0 then ((evs f a k).1, (evs f a k).2 + 1) else ((evs f a k).1 ++ [(false, ((evs f a k).2 : Int), f k)], 0)
def lvS (a : Nat) (l : List Ev) : Nat × (Nat → Int) := l.foldl (fun s e => (s.1 + e.2.1.toNat + 1, setF s.2 (s.1 + e.2.1.toNat) e.2.2)) (a, fun _ => 0)
theorem lvS_snoc (a : Nat) (l : List Ev) (e : Ev) : lvS a (l ++ [e]) = ((lvS a l).1 + e.2.1.toNat + 1, setF (lvS a l).2 ((lvS a l).1 + e.2.1.toNat) e.2.2) := by
 unfold lvS
 rw [List.foldl_append]
 rfl
theorem lvS_more (a : Nat) (l : List Ev) {j : Nat} (h : j < l.length) : lvS a (l.take (j + 1)) = ((lvS a (l.take j)).1 + l[j].2.1.toNat + 1, setF (lvS a (l.take j)).2 ((lvS a (l.take j)).1 + l[j].2.1.toNat) l[j].2.2) := by
 rw [List.take_succ_eq_append_getElem h, lvS_snoc]
def fitV (a : Nat) (l : List Ev) (j : Nat) (e : Ev) : Bool := rightT e.2.1 e.2.2 && (e.1 == decide (j + 1 = l.length)) && decide ((lvS a (l.take j)).1 + e.2.1.toNat < 64)
def badV (a : Nat) (l : List Ev) : Nat → Bool
 | 0 => false
 | j + 1 => badV a l j || (match l[j]? with | some e => !fitV a l j e | none => false)
theorem badV_more {a : Nat} {l : List Ev} {k : Nat} (h : badV a l k = true) : ∀ d, badV a l (k + d) = true
 | 0 => h
 | d + 1 => by rw [← Nat.add_assoc, badV, badV_more h d]; rfl
theorem badV_at {a : Nat} {l : List Ev} {j : Nat} (hj : j < l.length) (h : fitV a l j l[j] = false) : badV a l l.length = true := by
 have h1 : badV a l (j + 1) = true := by
  rw [badV, List.getElem?_eq_getElem hj]
  simp [h]
 have := badV_more h1 (l.length - (j + 1))
 rwa [show j + 1 + (l.length - (j + 1)) = l.length by omega] at this
theorem badV_not {a : Nat} {l : List Ev} : ∀ k, k ≤ l.length → (∀ j, (h : j < l.length) → j < k → fitV a l j l[j] = true) → badV a l k = false
 | 0, _, _ => rfl
 | k + 1, hk, h => by
  rw [badV, badV_not k (by omega) fun j h1 h2 => h j h1 (by omega), List.getElem?_eq_getElem (by omega)]
  simp [h k (by omega) (by omega)]
theorem badV_ok {a : Nat} {l : List Ev} (h : badV a l l.length = false) {j : Nat} (hj : j < l.length) : fitV a l j l[j] = true := by
 cases h2 : fitV a l j l[j] with
 | true => rfl
 | false => rw [badV_at hj h2] at h; cases h
def lvG (l : List Ev) (a : Int) : (Nat → Int) × Int := if a = 0 ∨ a = 1 then (if badV a.toNat l l.length then (fun _ => 0, 7) else ((lvS a.toNat l).2, 0)) else (fun _ => 0, 1)
end Go.Proofs.YthmmpjecmapajaaDoor

namespace Go.Proofs.YthmmpjecmapajaaDoor
open Go.RowKit Go.Lib Go.ChangeShapes Go.WideShapes Go.ChangeAt
def EvsIn (w : World) (p : Option Addr) (l : List Ev) : Prop :=
 l = [] ∨ ∃ b o, p = some ⟨b, o, none⟩ ∧ b < w.heap.size ∧ ∀ i, (h : i < l.length) → w.cell? ⟨b, o + i * 3, none⟩ = some (.bool l[i].1) ∧ w.cell? ⟨b, o + i * 3 + 1, none⟩ = some (.int .i64 l[i].2.1) ∧ w.cell? ⟨b, o + i * 3 + 2, none⟩ = some (.int .i64 l[i].2.2)
theorem EvsIn.below {w w' : World} {p : Option Addr} {l : List Ev} (h : EvsIn w p l) (hb : Below w.heap.size w w') : EvsIn w' p l := by
 rcases h with h | ⟨b, o, h1, h2, h3⟩
 ·exact .inl h
 ·refine .inr ⟨b, o, h1, Nat.lt_of_lt_of_le h2 hb.size, fun i hi => ?_⟩
  rw [hb.cell (p := ⟨b, o + i * 3, none⟩) h2, hb.cell (p := ⟨b, o + i * 3 + 1, none⟩) h2, hb.cell (p := ⟨b, o + i * 3 + 2, none⟩) h2]
  exact h3 i hi
theorem EvsIn.at {w : World} {p : Option Addr} {l : List Ev} (h : EvsIn w p l) (h0 : 0 < l.length) :
  ∃ b o, p = some ⟨b, o, none⟩ ∧ b < w.heap.size ∧ ∀ i, (h : i < l.length) → w.cell? ⟨b, o + i * 3, none⟩ = some (.bool l[i].1) ∧ w.cell? ⟨b, o + i * 3 + 1, none⟩ = some (.int .i64 l[i].2.1) ∧ w.cell? ⟨b, o + i * 3 + 2, none⟩ = some (.int .i64 l[i].2.2) := by
 rcases h with rfl | h
 ·cases h0
 ·exact h
theorem owns_evs {w : World} {base e : Nat} {v : Value} {l : List Ev} (h : w.ownsRow base e 3 v l.length (cellsV l)) : ∃ (q : Option Addr) (cap : Nat), v = .slice q l.length cap ∧ EvsIn w q l := by
 have h0 := h
 rcases h.2 with ⟨rfl, h1⟩ | ⟨g, cap, cur, rfl, _, hg, _⟩
 ·exact ⟨none, 0, by rw [h1], .inl (List.eq_nil_of_length_eq_zero h1)⟩
 ·refine ⟨_, cap, rfl, .inr ⟨g, 0, rfl, (Array.getElem?_eq_some_iff.1 hg).1, fun i hi => ?_⟩⟩
  obtain ⟨a0, a1, a2⟩ := cellsV_at l i hi
  rw [Nat.zero_add, Nat.mul_comm i 3]
  exact ⟨(h0.cellAt (3 * i) (by omega)).trans a0, (h0.cellAt (3 * i + 1) (by omega)).trans a1, (h0.cellAt (3 * i + 2) (by omega)).trans a2⟩
def EvCells (vs : List Value) : Prop := ∃ (b : Bool) (x y : Int), vs = [.bool b, .int .i64 x, .int .i64 y] ∧ (Lit.int .i64 x).wf = true ∧ (Lit.int .i64 y).wf = true
section
variable {H : Type} {enc : TypeId × Value → H} {P : Program}
theorem ev_struct {w : World} {base : Nat} {sp : Nat → Bool} {held : Bool} {e tb ti : TypeId} {f0 f1 f2 : Field}
  (he : P.underlying e = some (.struct #[f0, f1, f2])) (hb : P.underlying tb = some .bool) (hi : P.underlying ti = some (.int .i64)) (e0 : f0.type = tb) (e1 : f1.type = ti) (e2 : f2.type = ti) (o0 : f0.offset = 0) (o1 : f1.offset = 1) (o2 : f2.offset = 2) (cb : P.cellsOf tb = 1) (ci : P.cellsOf ti = 1) :
  ∀ k (vs : List Value) y, vs.length = 3 → DataW.trod enc P w base sp held k e vs = some y → EvCells vs := by
 intro k vs y hl h
 obtain ⟨xs, k, hk, hxy, _, hxl, hfs⟩ := DataW.trod_struct he h
 match xs, hxl, vs, hl with
 | [y0, y1, y2], _, [v0, v1, v2], _ =>
  have g0 := hfs 0 f0 rfl
  have g1 := hfs 1 f1 rfl
  have g2 := hfs 2 f2 rfl
  rw [e0, o0, cb] at g0
  rw [e1, o1, ci] at g1
  rw [e2, o2, ci] at g2
  obtain ⟨x0, q0, _⟩ := DataW.trod_bool hb (show DataW.trod _ P w base sp held k tb [v0] = some y0 from g0)
  obtain ⟨x1, q1, _, w1⟩ := DataW.trod_int hi (show DataW.trod _ P w base sp held k ti [v1] = some y1 from g1)
  obtain ⟨x2, q2, _, w2⟩ := DataW.trod_int hi (show DataW.trod _ P w base sp held k ti [v2] = some y2 from g2)
  injection q0 with q0
  injection q1 with q1
  injection q2 with q2
  subst q0 q1 q2
  exact ⟨x0, x1, x2, rfl, w1, w2⟩
end
theorem rows_evs {W : World} {p : Option Addr} {len : Nat} (h : RowsAt W EvCells 3 p len) : ∃ l : List Ev, l.length = len ∧ EvsIn W p l ∧ ∀ i, (h : i < l.length) → (Lit.int .i64 l[i].2.1).wf = true ∧ (Lit.int .i64 l[i].2.2).wf = true := by
 rcases h with rfl | ⟨b, o, hp, hb, hc⟩
 ·exact ⟨[], rfl, .inl rfl, fun i h => by cases h⟩
 ·have each : ∀ i, ∃ e : Ev, i < len → (W.cell? ⟨b, o + i * 3, none⟩ = some (.bool e.1) ∧ W.cell? ⟨b, o + i * 3 + 1, none⟩ = some (.int .i64 e.2.1) ∧ W.cell? ⟨b, o + i * 3 + 2, none⟩ = some (.int .i64 e.2.2)) ∧ (Lit.int .i64 e.2.1).wf = true ∧ (Lit.int .i64 e.2.2).wf = true := by
   intro i
   by_cases hi : i < len
   ·obtain ⟨vs, _, ⟨x, y, z, rfl, w1, w2⟩, hv⟩ := hc i hi
    exact ⟨(x, y, z), fun _ => ⟨⟨hv 0 _ rfl, hv 1 _ rfl, hv 2 _ rfl⟩, w1, w2⟩⟩
   ·exact ⟨(false, 0, 0), fun h => absurd h hi⟩
  refine ⟨(List.range len).map fun i => Classical.choose (each i), by simp, .inr ⟨b, o, hp, hb, fun i hi => ?_⟩, fun i hi => ?_⟩
  ·have hi' : i < len := by simpa using hi
   simp only [List.getElem_map, List.getElem_range]
   exact (Classical.choose_spec (each i) hi').1
  ·have hi' : i < len := by simpa using hi
   simp only [List.getElem_map, List.getElem_range]
   exact (Classical.choose_spec (each i) hi').2
theorem same_more {l m : List Ev} (hl : l.length = m.length) {i : Nat} (h : ∀ j, (h1 : j < l.length) → (h2 : j < m.length) → j < i → l[j] = m[j]) (h3 : l.length ≤ i) : l = m :=
 List.ext_getElem hl fun j h1 h2 => h j h1 h2 (by omega)
set_option maxRecDepth 100000 in
set_option maxHeartbeats 2000000 in
theorem same_page (p q : Option Addr) (l m : List Ev) (c c' : Nat) (w : World) (hp : EvsIn w p l) (hq : EvsIn w q m) (hm : l.length ≤ 1048576) : Calls Tryd.prog 26 #[.slice p l.length c, .slice q m.length c'] w fun e w' => e = .returned (.bool (decide (l = m))) ∧ Below w.heap.size w w' := by
 by_cases hl : l.length = m.length
 ·have HL := Lib.hid hl
  obtain ⟨n, hn⟩ : ∃ n, l.length = n := ⟨_, rfl⟩
  have HN := Lib.hid hn
  rw [← hl, hn]
  rw [hn] at hm
  clear hl hn
  go_enter Tryd.func26, Tryd.ntmps26
  go_wp2
  go_loopw [5] (fun z wr => ∃ i : Nat, i ≤ n ∧ z = .int .i64 i ∧ Hid (∀ j, (h1 : j < l.length) → (h2 : j < m.length) → j < i → l[j] = m[j]) ∧ Below w.heap.size w wr) (fun z _ => n - (intOf z).toNat)
  case atStart => exact ⟨0, Nat.zero_le _, rfl, Lib.hid fun j _ _ h => absurd h (Nat.not_lt_zero j), Below.refl _ _⟩
  case round =>
   obtain ⟨i, hi, rfl, hs, hb⟩ := hrel
   by_cases hlt : i < n
   ·have t0 : decide ((i : Int) < (n : Int)) = true := by simp; omega
    have t1 : decide (i < n) = true := by simpa using hlt
    have hil : i < l.length := by rw [HN.out]; exact hlt
    have him : i < m.length := by rw [← HL.out]; exact hil
    obtain ⟨b, o, rfl, hbb, hc⟩ := (hp.below hb).at (by omega)
    obtain ⟨b', o', rfl, hbb', hd⟩ := (hq.below hb).at (by omega)
    obtain ⟨c0, c1, c2⟩ := hc i hil
    obtain ⟨d0, d1, d2⟩ := hd i him
    have hx : ∀ j, j < i + 1 → j < i ∨ j = i := fun j h => by omega
    obtain ⟨⟨x0, x1, x2⟩, hxe⟩ : ∃ x, l[i] = x := ⟨_, rfl⟩
    obtain ⟨⟨y0, y1, y2⟩, hye⟩ : ∃ x, m[i] = x := ⟨_, rfl⟩
    rw [hxe] at c0 c1 c2
    rw [hye] at d0 d1 d2
    simp only at c0 c1 c2 d0 d1 d2
    have HXE := Lib.hid hxe
    have HYE := Lib.hid hye
    clear hc hd hbb hbb' hxe hye
    by_cases e : x0 = y0 ∧ x1 = y1 ∧ x2 = y2
    ·obtain ⟨rfl, rfl, rfl⟩ := e
     have NX := Lib.hid (show ∀ j, (h1 : j < l.length) → (h2 : j < m.length) → j < i + 1 → l[j] = m[j] from fun j h1 h2 h3 => by
      rcases hx j h3 with h | h
      ·exact hs.out j h1 h2 h
      ·subst h; rw [HXE.out, HYE.out])
     clear hs
     have hbd := hb.drew
     go_wp2
     go_region
     go_wp2
     go_roundw
     case rel => exact ⟨i + 1, by omega, by go_num, NX.out, hbd⟩
     case measure => simp [intOf]; omega
    ·have F := Lib.hid (show decide (l = m) = false by
      rw [decide_eq_false_iff_not]
      intro h
      subst h
      have h2 := HXE.out.symm.trans HYE.out
      injection h2 with h2 h3
      injection h3 with h3 h4
      exact e ⟨h2, h3, h4⟩)
     have hbd := hb.drew
     clear hs
     by_cases e0 : x0 = y0
     ·subst e0
      by_cases e1 : x1 = y1
      ·subst e1
       have g2 : (x2 == y2) = false := by rw [beq_eq_false_iff_ne]; intro h; exact e ⟨rfl, rfl, h⟩
       go_wp2
       go_region
       go_wp2
       go_ret
       exact ⟨ret_bool F.out.symm, hbd⟩
      ·have g1 : (x1 == y1) = false := by rw [beq_eq_false_iff_ne]; exact e1
       go_wp2
       go_region
       go_wp2
       go_ret
       exact ⟨ret_bool F.out.symm, hbd⟩
     ·have g0 : (x0 == y0) = false := by rw [beq_eq_false_iff_ne]; exact e0
      go_wp2
      go_region
      go_wp2
      go_ret
      exact ⟨ret_bool F.out.symm, hbd⟩
   ·obtain rfl : i = n := by omega
    have t0 : decide ((i : Int) < (i : Int)) = false := by simp
    have t1 : decide (i < i) = false := by simp
    have F := Lib.hid (show decide (l = m) = true by rw [decide_eq_true_iff]; exact same_more HL.out hs.out (Nat.le_of_eq HN.out))
    go_wp2
    go_ret
    exact ⟨ret_bool F.out.symm, hb⟩
 ·have F := Lib.hid (show decide (l = m) = false by rw [decide_eq_false_iff_not]; intro e; exact hl (by rw [e]))
  have g0 : ((l.length : Int) == (m.length : Int)) = false := by rw [beq_eq_false_iff_ne]; omega
  clear hp hq
  generalize l.length = n1 at hl g0 hm ⊢
  generalize m.length = n2 at hl g0 ⊢
  go_enter Tryd.func26, Tryd.ntmps26
  go_wp2
  go_ret
  exact ⟨ret_bool F.out.symm, Below.refl _ _⟩
end Go.Proofs.YthmmpjecmapajaaDoor

namespace Go.Proofs.YthmmpjecmapajaaDoor
open Go.RowKit Go.Lib Go.ChangeShapes Go.WideShapes Go.ChangeAt
section
variable {H : Type} {enc : TypeId × Value → H} {P : Program}
theorem rows_cell {w : World} {base fuel : Nat} {sp : Nat → Bool} {held : Bool} {t e : TypeId} {v : Value} {x : DataW H × List MemPlace} (c : Nat) (Q : List Value → Prop)
  (ht : P.underlying t = some (.slice e)) (ce : P.cellsOf e = c) (hc : 0 < c) (hq : ∀ k vs y, vs.length = c → DataW.trod enc P w base sp held k e vs = some y → Q vs)
  (hf : DataW.trod enc P w base sp held fuel t [v] = some x) : ∃ p len cap, v = .slice p len cap ∧ len ≤ maxLen ∧ RowsAt w Q c p len := by
 rcases Go.Deep.open_slice ht hf with ⟨h1, _⟩ | ⟨a', len', cap', m, n, D, Pl, h1, hb, hl, hm, hmm, _, hx⟩
 ·injection h1 with h1
  exact ⟨none, 0, 0, h1, Nat.zero_le _, .inl rfl⟩
 ·injection h1 with h1
  refine ⟨some a', len', cap', h1, by omega, ?_⟩
  have hlm : len' ≤ m := by rw [hmm]; split <;> omega
  have each : ∀ i, i < len' → ∃ vs : List Value, vs.length = c ∧ Q vs ∧ ∀ (j : Nat) v, vs[j]? = some v → w.cell? (a'.add (i * c + j)) = some v := by
   intro i hil
   obtain ⟨cs', h1, h2⟩ := hx i (by omega)
   rw [ce] at h1
   obtain ⟨_, hlen, hcell⟩ := World.cells?_some h1
   refine ⟨cs', hlen, hq _ _ _ hlen h2, fun j v hj => ?_⟩
   have hjc : j < c := by rw [← hlen]; exact (List.getElem?_eq_some_iff.1 hj).1
   have := hcell j hjc
   rw [Go.Deep.add_add] at this
   rw [this, hj]
  by_cases h0 : len' = 0
  ·exact .inl h0
  ·right
   obtain ⟨vs, hl0, _, hv⟩ := each 0 (by omega)
   have ca := hv 0 _ (List.getElem?_eq_getElem (by omega))
   rw [show 0 * c + 0 = 0 by omega] at ca
   have ca : w.cell? a' = _ := ca
   have ea := spot_none ca
   refine ⟨a'.block, a'.off, by rw [← ea], block_of_cell ca, fun i hil => ?_⟩
   obtain ⟨vs, h1, h2, h3⟩ := each i hil
   refine ⟨vs, h1, h2, fun j v hj => ?_⟩
   have := h3 j v hj
   rw [ea, Addr.add_mid, ← Nat.add_assoc] at this
   exact this
end
end Go.Proofs.YthmmpjecmapajaaDoor

namespace Go.Proofs.YthmmpjecmapajaaDoor
open Go.RowKit Go.Lib
structure Cel where
 stuff : Int
 skip : Bool
 kind : Int
 step : Int
 mx : Int
 my : Int
 dc : Nat → Int
 ev : Nat → List Ev
def celZ : Cel := ⟨0, false, 0, 0, 0, 0, fun _ => 0, fun _ => []⟩
def six {α : Type} (a b c d e f : α) : Nat → α
 | 0 => a
 | 1 => b
 | 2 => c
 | 3 => d
 | 4 => e
 | _ => f
def celL (c : Cel) (sl : Nat → Value) : List Value :=
 [.int .i64 c.stuff, .bool c.skip, .int .i64 c.kind, .int .i64 c.step, .int .i64 c.mx, .int .i64 c.my,
  .int .i64 (c.dc 0), .int .i64 (c.dc 1), .int .i64 (c.dc 2), .int .i64 (c.dc 3), .int .i64 (c.dc 4), .int .i64 (c.dc 5), sl 0, sl 1, sl 2, sl 3, sl 4, sl 5]
def nilS : Nat → Value := fun _ => .slice none 0 0
theorem celL_dc (c : Cel) (sl : Nat → Value) : ∀ i, i < 6 → (celL c sl)[6 + i]? = some (.int .i64 (c.dc i))
 | 0, _ => rfl
 | 1, _ => rfl
 | 2, _ => rfl
 | 3, _ => rfl
 | 4, _ => rfl
 | 5, _ => rfl
theorem celL_ev (c : Cel) (sl : Nat → Value) : ∀ i, i < 6 → (celL c sl)[12 + i]? = some (sl i)
 | 0, _ => rfl
 | 1, _ => rfl
 | 2, _ => rfl
 | 3, _ => rfl
 | 4, _ => rfl
 | 5, _ => rfl
def numB (c d : Cel) : Bool := c.stuff == d.stuff && c.skip == d.skip && c.kind == d.kind && c.step == d.step && (c.mx == d.mx && c.my == d.my) && (List.range 6).all fun i => c.dc i == d.dc i
def evB (c d : Cel) : Bool := (List.range 6).all fun i => decide (c.ev i = d.ev i)
def celB (c d : Cel) : Bool := evB c d && numB c d
theorem celB_self (c : Cel) : celB c c = true := by simp [celB, evB, numB]
theorem evB_not {c d : Cel} {i : Nat} (hi : i < 6) (h : c.ev i ≠ d.ev i) : evB c d = false := by
 unfold evB
 rw [List.all_eq_false]
 exact ⟨i, List.mem_range.2 hi, by simpa using h⟩
theorem evB_all {c d : Cel} (h : ∀ i, i < 6 → c.ev i = d.ev i) : evB c d = true := by
 unfold evB
 rw [List.all_eq_true]
 intro i hi
 simpa using h i (List.mem_range.1 hi)
def CelIn (w : World) (c : Cel) (p : Nat → Option Addr) (n : Nat → Nat) : Prop := ∀ i, i < 6 → n i = (c.ev i).length ∧ n i ≤ 1048576 ∧ EvsIn w (p i) (c.ev i)
theorem CelIn.below {w x : World} {c : Cel} {p : Nat → Option Addr} {n : Nat → Nat} (h : CelIn w c p n) (hb : Below w.heap.size w x) : CelIn x c p n :=
 fun i hi => ⟨(h i hi).1, (h i hi).2.1, (h i hi).2.2.below hb⟩
end Go.Proofs.YthmmpjecmapajaaDoor

namespace Go.Proofs.YthmmpjecmapajaaDoor
open Go.RowKit Go.Lib Go.ChangeShapes Go.WideShapes Go.ChangeAt
section
variable {H : Type} {enc : TypeId × Value → H} {P : Program}
theorem open_two_of {w : World} {base fuel : Nat} {sp : Nat → Bool} {held : Bool} {t e : TypeId} {c0 c1 : Value} {x : DataW H × List MemPlace}
  (ht : P.underlying t = some (.array 2 e)) (he : P.underlying e = some (.int .i64)) (hce : P.cellsOf e = 1) (hf : DataW.trod enc P w base sp held fuel t [c0, c1] = some x) :
  ∃ a b : Int, c0 = .int .i64 a ∧ c1 = .int .i64 b ∧ (Lit.int .i64 a).wf = true ∧ (Lit.int .i64 b).wf = true := by
 obtain ⟨xs, m, _, _, _, hl, hel⟩ := DataW.trod_array ht hf
 rw [hce] at hel
 match xs, hl with
 | [y0, y1], _ =>
  obtain ⟨x0, q0, _, w0⟩ := DataW.trod_int he (show DataW.trod _ P w base sp held m e [c0] = some y0 from hel 0 (by omega))
  obtain ⟨x1, q1, _, w1⟩ := DataW.trod_int he (show DataW.trod _ P w base sp held m e [c1] = some y1 from hel 1 (by omega))
  injection q0 with q0
  injection q1 with q1
  exact ⟨x0, x1, q0, q1, w0, w1⟩
theorem open_six_of {w : World} {base fuel : Nat} {sp : Nat → Bool} {held : Bool} {t e : TypeId} {c0 c1 c2 c3 c4 c5 : Value} {x : DataW H × List MemPlace}
  (ht : P.underlying t = some (.array 6 e)) (hce : P.cellsOf e = 1) (hf : DataW.trod enc P w base sp held fuel t [c0, c1, c2, c3, c4, c5] = some x) :
  ∃ (m : Nat) (y0 y1 y2 y3 y4 y5 : DataW H × List MemPlace), DataW.trod enc P w base sp held m e [c0] = some y0 ∧ DataW.trod enc P w base sp held m e [c1] = some y1 ∧ DataW.trod enc P w base sp held m e [c2] = some y2 ∧ DataW.trod enc P w base sp held m e [c3] = some y3 ∧ DataW.trod enc P w base sp held m e [c4] = some y4 ∧ DataW.trod enc P w base sp held m e [c5] = some y5 := by
 obtain ⟨xs, m, _, _, _, hl, hel⟩ := DataW.trod_array ht hf
 rw [hce] at hel
 match xs, hl with
 | [y0, y1, y2, y3, y4, y5], _ => exact ⟨m, y0, y1, y2, y3, y4, y5, hel 0 (by omega), hel 1 (by omega), hel 2 (by omega), hel 3 (by omega), hel 4 (by omega), hel 5 (by omega)⟩
theorem int_of {w : World} {base fuel : Nat} {sp : Nat → Bool} {held : Bool} {e : TypeId} {c : Value} {x : DataW H × List MemPlace} (he : P.underlying e = some (.int .i64)) (hf : DataW.trod enc P w base sp held fuel e [c] = some x) :
  ∃ a : Int, c = .int .i64 a ∧ (Lit.int .i64 a).wf = true := by
 obtain ⟨a, q, _, h⟩ := DataW.trod_int he hf
 injection q with q
 exact ⟨a, q, h⟩
end
end Go.Proofs.YthmmpjecmapajaaDoor
