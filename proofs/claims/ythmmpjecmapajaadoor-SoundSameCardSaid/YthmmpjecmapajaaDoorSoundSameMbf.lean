/- Texts that SoundSame's proof stands on, part 32 of 48. No condition of its own. -/
import Derived.Test.YthmmpjecmapajaaDoorSoundSameMm
import Derived.Test.YthmmpjecmapajaaDoorSoundSameMt
import Derived.Test.YthmmpjecmapajaaDoorSoundSameMbe
namespace Go.Proofs.YthmmpjecmapajaaDoor
open Go.RowKit
def allN {α : Type} (f : Nat → α → Bool) : Nat → List α → Bool
 | _, [] => true
 | i, a :: l => f i a && allN f (i + 1) l
theorem allN_iff {α : Type} {f : Nat → α → Bool} : ∀ {i : Nat} {l : List α}, allN f i l = true ↔ ∀ j, (h : j < l.length) → f (i + j) l[j] = true
 | _, [] => ⟨fun _ j h => absurd h (Nat.not_lt_zero j), fun _ => rfl⟩
 | i, a :: l => by
  rw [allN, Bool.and_eq_true, allN_iff]
  constructor
  ·rintro ⟨h0, h1⟩ j hj
   cases j with
   | zero => exact h0
   | succ j =>
    have := h1 j (by simpa using hj)
    rw [show i + (j + 1) = i + 1 + j by omega]
    exact this
  ·intro h
   refine ⟨h 0 (by simp), fun j hj => ?_⟩
   have := h (j + 1) (by simpa using hj)
   rw [show i + (j + 1) = i + 1 + j by omega] at this
   exact this
theorem allN_snoc {α : Type} {f : Nat → α → Bool} : ∀ (i : Nat) (l : List α) (a : α), allN f i (l ++ [a]) = (allN f i l && f (i + l.length) a)
 | i, [], a => by simp [allN]
 | i, b :: l, a => by
  rw [List.cons_append, allN, allN_snoc (i + 1) l a, allN, Bool.and_assoc, List.length_cons, show i + (l.length + 1) = i + 1 + l.length by omega]
theorem allN_append {α : Type} {f : Nat → α → Bool} : ∀ (i : Nat) (l m : List α), allN f i (l ++ m) = (allN f i l && allN f (i + l.length) m)
 | i, [], m => by simp [allN]
 | i, b :: l, m => by
  rw [List.cons_append, allN, allN_append (i + 1) l m, allN, Bool.and_assoc, List.length_cons, show i + (l.length + 1) = i + 1 + l.length by omega]
theorem allN_fail {α : Type} {f : Nat → α → Bool} {l : List α} {j : Nat} (hj : j < l.length) (h1 : f j l[j] = false) : allN f 0 l = false := by
 cases h : allN f 0 l with
 | false => rfl
 | true =>
  have := allN_iff.1 h j hj
  rw [Nat.zero_add, h1] at this
  cases this
def rowMay (inter : Bool) (n : Int) (i : Nat) (r : RowP) : Bool :=
 decide ((r.cels.length : Int) = n) && ((if r.head then decide (i ≠ 0 ∧ 0 ≤ r.id ∧ r.id ≤ 3 ∧ 1 ≤ r.quant ∧ r.quant ≤ 31) else decide (r.id = 0 ∧ r.quant = 0)) && r.cels.all (celMay inter))
def rowN (k : Int) : Int := fmtA k * fmtL k
def shTree (S : ShP) : Bool :=
 shdMay S.hd && (decide (0 ≤ S.zeros ∧ S.zeros ≤ 262144) && (decide ((S.rows.length : Int) = fmtR S.hd.fmt) && allN (rowMay S.hd.inter (rowN S.hd.fmt)) 0 S.rows))
def celsP (S : ShP) : List Cel := S.rows.flatMap (·.cels)
def vecMay (k : Int) (n : Nat) (c : Cel) : Bool := intraK c.kind || mayV k (n : Int) c.mx c.my
def shErr (S : ShP) : Int := if shTree S = true then (if allN (vecMay S.hd.fmt) 0 (celsP S) = true then 0 else 8) else 12
theorem shErr_tree {S : ShP} (h : shTree S = false) : shErr S = 12 := by unfold shErr; rw [if_neg (by rw [h]; decide)]
theorem shErr_vector {S : ShP} (h : shTree S = true) (h1 : allN (vecMay S.hd.fmt) 0 (celsP S) = false) : shErr S = 8 := by unfold shErr; rw [if_pos h, if_neg (by rw [h1]; decide)]
theorem shErr_ok {S : ShP} (h : shTree S = true) (h1 : allN (vecMay S.hd.fmt) 0 (celsP S) = true) : shErr S = 0 := by unfold shErr; rw [if_pos h, if_pos h1]
theorem shErr_zero {S : ShP} (h : shErr S = 0) : shTree S = true ∧ allN (vecMay S.hd.fmt) 0 (celsP S) = true := by
 unfold shErr at h
 cases h1 : shTree S with
 | false => rw [h1] at h; cases h
 | true =>
  cases h2 : allN (vecMay S.hd.fmt) 0 (celsP S) with
  | false => rw [h1, h2] at h; cases h
  | true => exact ⟨rfl, rfl⟩
theorem flat_length {inter : Bool} {n : Int} : ∀ (i : Nat) (l : List RowP), allN (rowMay inter n) i l = true → ((l.flatMap (·.cels)).length : Int) = l.length * n
 | _, [], _ => by simp
 | i, r :: l, h => by
  rw [allN, Bool.and_eq_true] at h
  have h0 := h.1
  unfold rowMay at h0
  rw [Bool.and_eq_true, decide_eq_true_iff] at h0
  have h1 := flat_length (i + 1) l h.2
  rw [List.flatMap_cons, List.length_append, List.length_cons]
  have e : (((l.length + 1 : Nat) : Int)) * n = (l.length : Int) * n + n := by
   rw [show ((l.length + 1 : Nat) : Int) = (l.length : Int) + 1 by omega, Int.add_mul, Int.one_mul]
  have := h0.1
  omega
theorem fmt_many (k : Int) : fmtR k * rowN k = ((cells k : Nat) : Int) := by
 unfold rowN
 rcases fmt_cases k with rfl | rfl | rfl | rfl | rfl | rfl | ⟨h, hv⟩
 case _ | _ | _ | _ | _ | _ => decide +kernel
 rw [cells_none h]
 unfold fmtR fmtL
 rw [hv]
 simp
theorem cels_many {S : ShP} (h : shTree S = true) : (celsP S).length = cells S.hd.fmt := by
 unfold shTree at h
 simp only [Bool.and_eq_true, decide_eq_true_iff] at h
 obtain ⟨-, -, h1, h2⟩ := h
 have h3 := flat_length 0 S.rows h2
 rw [h1, fmt_many] at h3
 exact Int.ofNat.inj h3
def shdB (a b : Shd) : Bool := a.ref == b.ref && (a.flags == b.flags && (a.fmt == b.fmt && (a.inter == b.inter && (a.quant == b.quant && decide (a.supp = b.supp)))))
def rwB (a b : RowP) : Bool := (a.head == b.head && (a.id == b.id && a.quant == b.quant)) && (decide (a.cels.length = b.cels.length) && (a.cels.zip b.cels).all fun p => celB p.1 p.2)
def shB (a b : ShP) : Bool := shdB a.hd b.hd && (a.zeros == b.zeros && (decide (a.rows.length = b.rows.length) && (a.rows.zip b.rows).all fun p => rwB p.1 p.2))
theorem zip_self {α : Type} {f : α → α → Bool} (hf : ∀ a, f a a = true) : ∀ l : List α, ((l.zip l).all fun p => f p.1 p.2) = true
 | [] => rfl
 | a :: l => by rw [List.zip_cons_cons, List.all_cons, hf, zip_self hf l]; rfl
theorem shdB_self (a : Shd) : shdB a a = true := by simp [shdB]
theorem rwB_self (a : RowP) : rwB a a = true := by simp [rwB, zip_self celB_self]
theorem shB_self (a : ShP) : shB a a = true := by simp [shB, shdB_self, zip_self rwB_self]
theorem zip_take {α : Type} {f : α → α → Bool} {l m : List α} {j : Nat} (hl : j < l.length) (hm : j < m.length) (h : (((l.take j).zip (m.take j)).all fun p => f p.1 p.2) = true) (h1 : f l[j] m[j] = true) : (((l.take (j + 1)).zip (m.take (j + 1))).all fun p => f p.1 p.2) = true := by
 rw [List.take_succ_eq_append_getElem hl, List.take_succ_eq_append_getElem hm, List.zip_append (by simp; omega), List.all_append, h]
 simp [h1]
theorem zip_fail {α : Type} {f : α → α → Bool} {l m : List α} {j : Nat} (hl : j < l.length) (hm : j < m.length) (h1 : f l[j] m[j] = false) : ((l.zip m).all fun p => f p.1 p.2) = false := by
 rw [List.all_eq_false]
 refine ⟨(l[j], m[j]), ?_, by rw [h1]; decide⟩
 have hz : j < (l.zip m).length := by rw [List.length_zip]; omega
 have e : (l.zip m)[j] = (l[j], m[j]) := List.getElem_zip
 rw [← e]
 exact List.getElem_mem hz
end Go.Proofs.YthmmpjecmapajaaDoor
