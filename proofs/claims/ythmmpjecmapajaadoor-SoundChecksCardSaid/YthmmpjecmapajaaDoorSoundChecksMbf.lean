/- Texts that SoundChecks's proof stands on, part 32 of 48. No condition of its own. -/
import Derived.Test.YthmmpjecmapajaaDoorSoundChecksMm
import Derived.Test.YthmmpjecmapajaaDoorSoundChecksMt
import Derived.Test.YthmmpjecmapajaaDoorSoundChecksMbe
namespace Go.Proofs.YthmmpjecmapajaaDoor
open Go.RowKit
def allN {α : Type} (f : Nat → α → Bool) : Nat → List α → Bool
 | _, [] => true
 | i, a :: l => f i a && allN f (i + 1) l
theorem allN_iff {α : Type} {f : Nat → α → Bool} : ∀ {i : Nat} {l : List α}, allN f i l = true ↔ ∀ j, (h : j < l.length) → f (i + j) l[j] = true
 | _, [] => ⟨fun _ j h => absurd h (Nat.not_lt_zero j), fun _ => rfl⟩
 | i, a :: l => by
  rw [allN, Bool.and_eq_true, allN_iff]
  constructor
  ·rintro ⟨h0, h1⟩ j hj
   cases j with
   | zero => exact h0
   | succ j =>
    have := h1 j (by simpa using hj)
    rw [show i + (j + 1) = i + 1 + j by omega]
    exact this
  ·intro h
   refine ⟨h 0 (by simp), fun j hj => ?_⟩
   have := h (j + 1) (by simpa using hj)
   rw [show i + (j + 1) = i + 1 + j by omega] at this
   exact this
theorem allN_snoc {α : Type} {f : Nat → α → Bool} : ∀ (i : Nat) (l : List α) (a : α), allN f i (l ++ [a]) = (allN f i l && f (i + l.length) a)
 | i, [], a => by simp [allN]
 | i, b :: l, a => by
  rw [List.cons_append, allN, allN_snoc (i + 1) l a, allN, Bool.and_assoc, List.length_cons, show i + (l.length + 1) = i + 1 + l.length by omega]
theorem allN_append {α : Type} {f : Nat → α → Bool} : ∀ (i : Nat) (l m : List α), allN f i (l ++ m) = (allN f i l && allN f (i + l.length) m)
 | i, [], m => by simp [allN]
 | i, b :: l, m => by
  rw [List.cons_append, allN, allN_append (i + 1) l m, allN, Bool.and_assoc, List.length_cons, show i + (l.length + 1) = i + 1 + l.length by omega]
theorem allN_take {α : Type} {f : Nat → α → Bool} {l : List α} {j : Nat} (hj : j < l.length) (h : allN f 0 (l.take j) = true) (h1 : f j l[j] = true) : allN f 0 (l.take (j + 1)) = true := by
 rw [List.take_succ_eq_append_getElem hj, allN_snoc, h, List.length_take, show 0 + min j l.length = j by omega, h1]; rfl
theorem allN_fail {α : Type} {f : Nat → α → Bool} {l : List α} {j : Nat} (hj : j < l.length) (h1 : f j l[j] = false) : allN f 0 l = false := by
 cases h : allN f 0 l with
 | false => rfl
 | true =>
  have := allN_iff.1 h j hj
  rw [Nat.zero_add, h1] at this
  cases this
def rowMay (inter : Bool) (n : Int) (i : Nat) (r : RowP) : Bool :=
 decide ((r.cels.length : Int) = n) && ((if r.head then decide (i ≠ 0 ∧ 0 ≤ r.id ∧ r.id ≤ 3 ∧ 1 ≤ r.quant ∧ r.quant ≤ 31) else decide (r.id = 0 ∧ r.quant = 0)) && r.cels.all (celMay inter))
def rowN (k : Int) : Int := fmtA k * fmtL k
def shTree (S : ShP) : Bool :=
 shdMay S.hd && (decide (0 ≤ S.zeros ∧ S.zeros ≤ 262144) && (decide ((S.rows.length : Int) = fmtR S.hd.fmt) && allN (rowMay S.hd.inter (rowN S.hd.fmt)) 0 S.rows))
def celsP (S : ShP) : List Cel := S.rows.flatMap (·.cels)
def vecMay (k : Int) (n : Nat) (c : Cel) : Bool := intraK c.kind || mayV k (n : Int) c.mx c.my
def shErr (S : ShP) : Int := if shTree S = true then (if allN (vecMay S.hd.fmt) 0 (celsP S) = true then 0 else 8) else 12
theorem shErr_tree {S : ShP} (h : shTree S = false) : shErr S = 12 := by unfold shErr; rw [if_neg (by rw [h]; decide)]
theorem shErr_vector {S : ShP} (h : shTree S = true) (h1 : allN (vecMay S.hd.fmt) 0 (celsP S) = false) : shErr S = 8 := by unfold shErr; rw [if_pos h, if_neg (by rw [h1]; decide)]
theorem shErr_ok {S : ShP} (h : shTree S = true) (h1 : allN (vecMay S.hd.fmt) 0 (celsP S) = true) : shErr S = 0 := by unfold shErr; rw [if_pos h, if_pos h1]
end Go.Proofs.YthmmpjecmapajaaDoor
