/- Texts that CelloutBack's proof stands on, part 44 of 45. No condition of its own. -/
import Derived.Test.YtekjgcchnmnplaaGreatDoorCelloutBackMi
import Derived.Test.YtekjgcchnmnplaaGreatDoorCelloutBackMj
import Derived.Test.YtekjgcchnmnplaaGreatDoorCelloutBackMo
import Derived.Test.YtekjgcchnmnplaaGreatDoorCelloutBackMr
import Derived.Test.YtekjgcchnmnplaaGreatDoorCelloutBackMs
import Derived.Test.YtekjgcchnmnplaaGreatDoorCelloutBackMu
import Derived.Test.YtekjgcchnmnplaaGreatDoorCelloutBackMbm
import Derived.Test.YtekjgcchnmnplaaGreatDoorCelloutBackMbo
import Derived.Test.YtekjgcchnmnplaaGreatDoorCelloutBackMbp
import Derived.Test.YtekjgcchnmnplaaGreatDoorCelloutBackMbq
namespace Go.Proofs.YtekjgcchnmnplaaGreatDoor
theorem mtk_all (inter : Bool) (b : List UInt8) : (mtk inter b = (0, 0, (mtk inter b).2.2.1, 0) ∧ (mtk inter b).2.2.1 ≠ 0) ∨ ((mtk inter b).2.2.1 = 0 ∧ 0 ≤ (mtk inter b).1 ∧ (mtk inter b).1 ≤ 5 ∧ (mtk inter b).1 ≠ 2 ∧ 0 ≤ (mtk inter b).2.1 ∧ (mtk inter b).2.1 ≤ 3 ∧ (mtk inter b).2.2.2 ≤ b.length) := by
 obtain ⟨⟨f, n⟩, ht⟩ : ∃ x, tk ((allC inter).map rowCY) b 25 1 = x := ⟨_, rfl⟩
 by_cases hf : f = 0
 ·subst hf
  have hh := tk_hit ht
  unfold mtk
  rw [ht, if_pos rfl]
  split
  next x _ =>
   split
   ·exact .inl ⟨rfl, (show (6 : Int) ≠ 0 by decide)⟩
   ·refine .inr ⟨rfl, ?_, ?_, by assumption, ?_, ?_, hh.2.1⟩ <;> simp only [sA, sB] <;> omega
  ·exact .inr ⟨rfl, by decide, by decide, by decide, by decide, by decide, Nat.zero_le _⟩
 ·rw [mtk_not inter ht hf]
  exact .inl ⟨rfl, hf⟩
theorem num_all {all : List (ByteArray × Int)} {lo hi : Int} (h0 : lo ≤ 0 ∧ 0 ≤ hi) (hall : ∀ x ∈ all, lo ≤ x.2 ∧ x.2 ≤ hi) (b : List UInt8) : lo ≤ (gtk all b).1 ∧ (gtk all b).1 ≤ hi ∧ (gtk all b).2.2 ≤ b.length := by
 obtain ⟨⟨f, n⟩, ht⟩ : ∃ x, tk (all.map rowC) b 25 1 = x := ⟨_, rfl⟩
 unfold gtk
 by_cases hf : f = 0
 ·subst hf
  have hh := tk_hit ht
  rw [ht, if_pos rfl]
  split
  next x hx => exact ⟨(hall x (List.mem_of_find?_eq_some hx)).1, (hall x (List.mem_of_find?_eq_some hx)).2, hh.2.1⟩
  ·exact ⟨h0.1, h0.2, Nat.zero_le _⟩
 ·rw [ht, if_neg hf]
  exact ⟨h0.1, h0.2, Nat.zero_le _⟩
theorem ptk_all (intra : Bool) (b : List UInt8) : 0 ≤ (ptk intra b).1 ∧ (ptk intra b).1 ≤ 15 ∧ (ptk intra b).2.2 ≤ b.length :=
 num_all (all := allP intra) (lo := 0) (hi := 15) ⟨by decide, by decide⟩ (by cases intra <;> decide +kernel) b
theorem dtk_all (b : List UInt8) : -32 ≤ (dtk b).1 ∧ (dtk b).1 ≤ 31 ∧ (dtk b).2.2 ≤ b.length :=
 num_all (all := allD) (lo := -32) (hi := 31) ⟨by decide, by decide⟩ (by decide +kernel) b
def bitk (b : List UInt8) : Int × Int × Nat := match b with | [] => (0, 2, 0) | c :: _ => (if c = 49 then 1 else 0, 0, 1)
abbrev Stt := Nat × Int
def numS (k : List UInt8 → Int × Int × Nat) (S : List UInt8) (st : Stt) : Int × Stt :=
 if st.2 = 0 then ((k (S.drop st.1)).1, st.1 + (k (S.drop st.1)).2.2, (k (S.drop st.1)).2.1) else (0, st)
def kinS (inter : Bool) (S : List UInt8) (st : Stt) : Int × Int × Stt :=
 if st.2 = 0 then ((mtk inter (S.drop st.1)).1, (mtk inter (S.drop st.1)).2.1, st.1 + (mtk inter (S.drop st.1)).2.2.2, (mtk inter (S.drop st.1)).2.2.1) else (0, 0, st)
def blkS (intra coded : Bool) (S : List UInt8) (st : Stt) : Int × List Ev × Stt :=
 if st.2 = 0 then ((btk S st.1 intra coded).1, (btk S st.1 intra coded).2.1, (btk S st.1 intra coded).2.2.1, (btk S st.1 intra coded).2.2.2) else (0, [], st)
def begS (inter : Bool) (S : List UInt8) : Nat → Nat → Stt → Nat × Bool × Int × Int × Stt
 | 0, _, st => (0, false, 0, 0, st.1, 13)
 | k + 1, n, st =>
  if inter = true ∧ (numS bitk S st).1 = 1 then (n, true, 0, 0, (numS bitk S st).2) else
  if (kinS inter S (if inter then (numS bitk S st).2 else st)).1 = 5 then begS inter S k (n + 1) (kinS inter S (if inter then (numS bitk S st).2 else st)).2.2 else
  (n, false, kinS inter S (if inter then (numS bitk S st).2 else st))
def stpS (S : List UInt8) (kind : Int) (st : Stt) : Int × Stt := if stepK kind then numS stk S st else (0, st)
def oneS (S : List UInt8) (pr : Int) (st : Stt) : Int × Stt := (wrap (wrap pr + (numS dtk S st).1), (numS dtk S st).2)
def vecS (S : List UInt8) (kind : Int) (x y : Int) (st : Stt) : Int × Int × Stt :=
 if intraK kind then (0, 0, st) else ((oneS S x st).1, (oneS S y (oneS S x st).2).1, (oneS S y (oneS S x st).2).2)
def codB (c i : Nat) : Bool := c / 2 ^ (5 - i) % 2 == 1
def stB (intra : Bool) (c : Nat) (S : List UInt8) (st : Stt) : Nat → Stt
 | 0 => st
 | i + 1 => (blkS intra (codB c i) S (stB intra c S st i)).2.2
def codC (inter : Bool) (S : List UInt8) (st : Stt) : Nat :=
 4 * (numS (ptk (intraK (begS inter S 65 0 st).2.2.1)) S (begS inter S 65 0 st).2.2.2.2).1.toNat + (begS inter S 65 0 st).2.2.2.1.toNat
def st2 (inter : Bool) (S : List UInt8) (st : Stt) : Stt := (numS (ptk (intraK (begS inter S 65 0 st).2.2.1)) S (begS inter S 65 0 st).2.2.2.2).2
def st3 (inter : Bool) (S : List UInt8) (st : Stt) : Stt := (stpS S (begS inter S 65 0 st).2.2.1 (st2 inter S st)).2
def st4 (inter : Bool) (S : List UInt8) (x y : Int) (st : Stt) : Stt := (vecS S (begS inter S 65 0 st).2.2.1 x y (st3 inter S st)).2.2
def celS (inter : Bool) (S : List UInt8) (x y : Int) (st : Stt) : Cel × Stt :=
 if (begS inter S 65 0 st).2.1 then ({ celZ with stuff := (begS inter S 65 0 st).1, skip := true }, (begS inter S 65 0 st).2.2.2.2) else
 ({ stuff := (begS inter S 65 0 st).1, skip := false, kind := (begS inter S 65 0 st).2.2.1, step := (stpS S (begS inter S 65 0 st).2.2.1 (st2 inter S st)).1, mx := (vecS S (begS inter S 65 0 st).2.2.1 x y (st3 inter S st)).1, my := (vecS S (begS inter S 65 0 st).2.2.1 x y (st3 inter S st)).2.1, dc := fun i => (blkS (intraK (begS inter S 65 0 st).2.2.1) (codB (codC inter S st) i) S (stB (intraK (begS inter S 65 0 st).2.2.1) (codC inter S st) S (st4 inter S x y st) i)).1, ev := fun i => (blkS (intraK (begS inter S 65 0 st).2.2.1) (codB (codC inter S st) i) S (stB (intraK (begS inter S 65 0 st).2.2.1) (codC inter S st) S (st4 inter S x y st) i)).2.1 },
  stB (intraK (begS inter S 65 0 st).2.2.1) (codC inter S st) S (st4 inter S x y st) 6)
def ctk (inter : Bool) (S : List UInt8) (x y : Int) (p : Nat) : Cel × Nat × Int :=
 if (celS inter S x y (p, 0)).2.2 = 0 then ((celS inter S x y (p, 0)).1, (celS inter S x y (p, 0)).2.1, 0) else (celZ, p, (celS inter S x y (p, 0)).2.2)
theorem numS_ok {k : List UInt8 → Int × Int × Nat} {S : List UInt8} {p : Nat} : numS k S (p, 0) = ((k (S.drop p)).1, p + (k (S.drop p)).2.2, (k (S.drop p)).2.1) := if_pos rfl
theorem numS_not {k : List UInt8 → Int × Int × Nat} {S : List UInt8} {st : Stt} (h : st.2 ≠ 0) : numS k S st = (0, st) := if_neg h
theorem kinS_ok {inter : Bool} {S : List UInt8} {p : Nat} : kinS inter S (p, 0) = ((mtk inter (S.drop p)).1, (mtk inter (S.drop p)).2.1, p + (mtk inter (S.drop p)).2.2.2, (mtk inter (S.drop p)).2.2.1) := if_pos rfl
theorem kinS_not {inter : Bool} {S : List UInt8} {st : Stt} (h : st.2 ≠ 0) : kinS inter S st = (0, 0, st) := if_neg h
theorem blkS_ok {intra coded : Bool} {S : List UInt8} {p : Nat} : blkS intra coded S (p, 0) = ((btk S p intra coded).1, (btk S p intra coded).2.1, (btk S p intra coded).2.2.1, (btk S p intra coded).2.2.2) := if_pos rfl
theorem blkS_not {intra coded : Bool} {S : List UInt8} {st : Stt} (h : st.2 ≠ 0) : blkS intra coded S st = (0, [], st) := if_neg h
theorem cel_wrong {inter : Bool} {S : List UInt8} {x y : Int} {p : Nat} {f : Int} (hf : f ≠ 0) (h : (celS inter S x y (p, 0)).2.2 = f) : ctk inter S x y p = (celZ, p, f) := by
 unfold ctk
 rw [h, if_neg hf]
theorem cel_right {inter : Bool} {S : List UInt8} {x y : Int} {p q : Nat} {c : Cel} (h : celS inter S x y (p, 0) = (c, q, 0)) : ctk inter S x y p = (c, q, 0) := by
 unfold ctk
 rw [h, if_pos rfl]
theorem cel_skip {inter : Bool} {S : List UInt8} {x y : Int} {st s' : Stt} {n : Nat} {k c : Int} (h : begS inter S 65 0 st = (n, true, k, c, s')) : celS inter S x y st = ({ celZ with stuff := n, skip := true }, s') := by
 unfold celS
 rw [h]
 rfl
theorem begS_skip {inter : Bool} {S : List UInt8} {k n : Nat} {st st1 : Stt} {v : Int} (hi : inter = true) (h : numS bitk S st = (v, st1)) (hv : v = 1) : begS inter S (k + 1) n st = (n, true, 0, 0, st1) := by
 unfold begS
 rw [h, if_pos ⟨hi, hv⟩]
theorem begS_bit {S : List UInt8} {k n : Nat} {st st1 st2 : Stt} {v a c : Int} (h : numS bitk S st = (v, st1)) (hv : v ≠ 1) (h2 : kinS true S st1 = (a, c, st2)) : begS true S (k + 1) n st = if a = 5 then begS true S k (n + 1) st2 else (n, false, a, c, st2) := by
 conv => lhs; unfold begS
 rw [h, if_neg (fun e => hv e.2), if_pos rfl, h2]
theorem begS_none {S : List UInt8} {k n : Nat} {st st2 : Stt} {a c : Int} (h2 : kinS false S st = (a, c, st2)) : begS false S (k + 1) n st = if a = 5 then begS false S k (n + 1) st2 else (n, false, a, c, st2) := by
 conv => lhs; unfold begS
 rw [if_neg (fun e => by cases e.1)]
 simp only [Bool.false_eq_true, if_false, h2]
theorem begS_in (inter : Bool) (S : List UInt8) : ∀ (j n : Nat) (st : Stt) (n' : Nat) (sk : Bool) (k c : Int) (st' : Stt), begS inter S j n st = (n', sk, k, c, st') → n' ≤ n + j ∧ 0 ≤ k ∧ k ≤ 4 ∧ k ≠ 2 ∧ 0 ≤ c ∧ c ≤ 3 ∧ (sk = true → k = 0)
 | 0, n, st, n', sk, k, c, st', h => by
  simp only [begS, Prod.mk.injEq] at h
  exact ⟨by omega, by omega, by omega, by omega, by omega, by omega, fun _ => h.2.2.1.symm⟩
 | j + 1, n, st, n', sk, k, c, st', h => by
  have hk : ∀ s2, (kinS inter S s2).1 ≠ 5 → 0 ≤ (kinS inter S s2).1 ∧ (kinS inter S s2).1 ≤ 4 ∧ (kinS inter S s2).1 ≠ 2 ∧ 0 ≤ (kinS inter S s2).2.1 ∧ (kinS inter S s2).2.1 ≤ 3 := by
   intro s2 h5
   unfold kinS at h5 ⊢
   split at h5
   next hz =>
    rw [if_pos hz]
    simp only at h5 ⊢
    rcases mtk_all inter (S.drop s2.1) with ⟨h1, _⟩ | ⟨h0, h1, h2, h3, h4, h6, _⟩
    ·rw [h1]; refine ⟨?_, ?_, ?_, ?_, ?_⟩ <;> simp
    ·exact ⟨h1, by omega, h3, h4, h6⟩
   next hz =>
    rw [if_neg hz]
    refine ⟨?_, ?_, ?_, ?_, ?_⟩ <;> simp
  unfold begS at h
  generalize (if inter = true then (numS bitk S st).2 else st) = s1 at h
  split at h
  ·simp only [Prod.mk.injEq] at h
   exact ⟨by omega, by omega, by omega, by omega, by omega, by omega, fun _ => h.2.2.1.symm⟩
  ·split at h
   ·have := begS_in inter S j (n + 1) _ n' sk k c st' h
    exact ⟨by omega, this.2⟩
   next h5 =>
    have h1 := hk _ h5
    simp only [Prod.mk.injEq] at h
    obtain ⟨e1, e2, e3⟩ := h
    rw [e3] at h1
    simp only at h1
    exact ⟨by omega, h1.1, h1.2.1, h1.2.2.1, h1.2.2.2.1, h1.2.2.2.2, fun e => by rw [← e2] at e; cases e⟩
theorem cel_all {inter : Bool} {S : List UInt8} {x y : Int} {st st1 s2 s3 s4 : Stt} {n : Nat} {k ch pt sp mx my : Int} (h : begS inter S 65 0 st = (n, false, k, ch, st1)) (h2 : numS (ptk (intraK k)) S st1 = (pt, s2)) (h3 : stpS S k s2 = (sp, s3)) (h4 : vecS S k x y s3 = (mx, my, s4)) :
  celS inter S x y st = ({ stuff := n, skip := false, kind := k, step := sp, mx := mx, my := my, dc := fun i => (blkS (intraK k) (codB (4 * pt.toNat + ch.toNat) i) S (stB (intraK k) (4 * pt.toNat + ch.toNat) S s4 i)).1, ev := fun i => (blkS (intraK k) (codB (4 * pt.toNat + ch.toNat) i) S (stB (intraK k) (4 * pt.toNat + ch.toNat) S s4 i)).2.1 }, stB (intraK k) (4 * pt.toNat + ch.toNat) S s4 6) := by
 simp only [celS, st4, st3, st2, codC, h, h2, h3, h4, Bool.false_eq_true, if_false]
theorem pat_in (intra : Bool) (S : List UInt8) (st : Stt) : 0 ≤ (numS (ptk intra) S st).1 ∧ (numS (ptk intra) S st).1 ≤ 15 := by
 unfold numS
 split
 ·exact ⟨(ptk_all intra _).1, (ptk_all intra _).2.1⟩
 ·constructor <;> simp
theorem diff_in (S : List UInt8) (st : Stt) : -32 ≤ (numS dtk S st).1 ∧ (numS dtk S st).1 ≤ 31 := by
 unfold numS
 split
 ·exact ⟨(dtk_all _).1, (dtk_all _).2.1⟩
 ·constructor <;> simp
end Go.Proofs.YtekjgcchnmnplaaGreatDoor

namespace Go.Proofs.YtekjgcchnmnplaaGreatDoor
open Go.RowKit Go.Lib
structure Moved (a b : Nat) (w w' : World) : Prop where
 os : w'.os = w.os
 tape : w'.tape = w.tape
 output : w'.output = w.output
 size : w.heap.size ≤ w'.heap.size
 block : ∀ k, k < w.heap.size → k ≠ a → k ≠ b → w'.heap[k]? = w.heap[k]?
theorem Moved.refl (a b : Nat) (w : World) : Moved a b w w := ⟨rfl, rfl, rfl, Nat.le_refl _, fun _ _ _ _ => rfl⟩
theorem Moved.trans {a b : Nat} {x y z : World} (h : Moved a b x y) (k : Moved a b y z) : Moved a b x z :=
 ⟨k.os.trans h.os, k.tape.trans h.tape, k.output.trans h.output, Nat.le_trans h.size k.size, fun i hi h1 h2 => (k.block i (Nat.lt_of_lt_of_le hi h.size) h1 h2).trans (h.block i hi h1 h2)⟩
theorem Moved.grown {a b c : Nat} {x y : World} (h : x.grownBy y (some c)) (hc : c = a ∨ c = b) : Moved a b x y :=
 ⟨h.os, h.tape, h.output, h.size, fun i hi h1 h2 => h.block i hi (fun e => by injection e with e; omega)⟩
theorem Moved.set {a b : Nat} {x : World} {p : Addr} (v : Value) (hc : p.block = a ∨ p.block = b) : Moved a b x (x.setCell p v) :=
 ⟨rfl, rfl, rfl, by simp [World.setCell], fun i _ h1 h2 => Below.heap_setCell _ _ _ _ (by omega)⟩
theorem Moved.under {a b N : Nat} {x y : World} (h : Moved a b x y) (hz : N ≤ x.heap.size) (ha : N ≤ a) (hb : N ≤ b) : Below N x y :=
 ⟨h.os, h.tape, h.output, h.size, fun k hk => h.block k (by omega) (by omega) (by omega)⟩
def RdAt (w : World) (pb rb : Nat) (s : ByteArray) (st : Stt) : Prop :=
 w.heap[pb]? = some (.cells [.pointer (some ⟨rb, 0, none⟩), .int .i64 st.2].toArray 65 (0, 0)) ∧ IsRd w rb s st.1 ∧ rb < pb
theorem RdAt.lt {w : World} {pb rb : Nat} {s : ByteArray} {st : Stt} (h : RdAt w pb rb s st) : pb < w.heap.size := (Array.getElem?_eq_some_iff.1 h.1).1
theorem RdAt.under {w x : World} {pb rb N : Nat} {s : ByteArray} {st : Stt} (h : RdAt w pb rb s st) (hb : Below N w x) (hp : pb < N) : RdAt x pb rb s st :=
 ⟨(hb.block pb hp).trans h.1, h.2.1.under hb (by have := h.2.2; omega), h.2.2⟩
theorem RdAt.below {w x : World} {pb rb : Nat} {s : ByteArray} {st : Stt} (h : RdAt w pb rb s st) (hb : Below w.heap.size w x) : RdAt x pb rb s st := h.under hb h.lt
theorem RdAt.store {w x : World} {pb rb : Nat} {s : ByteArray} {st : Stt} {q : Nat} {f : Int} (h : RdAt w pb rb s st) (hr : IsRd x rb s q) (hg : w.grownBy x (some rb)):
  RdAt (x.setCell ⟨pb, 1, none⟩ (.int .i64 f)) pb rb s (q, f) ∧ Moved rb pb w (x.setCell ⟨pb, 1, none⟩ (.int .i64 f)) := by
 have h0 := (hg.block pb h.lt (by have := h.2.2; simp; omega)).trans h.1
 have hne : rb ≠ pb := by have := h.2.2; omega
 refine ⟨⟨?_, ⟨?_, hr.2⟩, h.2.2⟩, (Moved.grown hg (.inl rfl)).trans (Moved.set _ (.inr rfl))⟩
 ·exact part_set (o := 1) (.int .i64 f) h0
 ·rw [Below.heap_setCell _ _ _ _ hne]; exact hr.1
def SlAt (w : World) (B : Nat) (v : Value) (L : List Ev) : Prop := ∃ (q : Option Addr) (cap : Nat), v = .slice q L.length cap ∧ EvsIn w q L ∧ FromB B q
theorem SlAt.nil (w : World) (B : Nat) : SlAt w B (.slice none 0 0) [] := ⟨none, 0, rfl, .inl rfl, FromB.none _⟩
theorem SlAt.one {w : World} {B : Nat} {v : Value} {L : List Ev} (h : SlAt w B v L) : v.oneCell' = true := by
 obtain ⟨q, cap, rfl, _⟩ := h
 rfl
theorem SlAt.from {w : World} {A B : Nat} {v : Value} {L : List Ev} (h : SlAt w B v L) (hab : A ≤ B) : SlAt w A v L := by
 obtain ⟨q, cap, h1, h2, h3⟩ := h
 exact ⟨q, cap, h1, h2, h3.mono hab⟩
theorem SlAt.moved {w x : World} {a b B : Nat} {v : Value} {L : List Ev} (h : SlAt w B v L) (hm : Moved a b w x) (ha : a < B) (hb : b < B) : SlAt x B v L := by
 obtain ⟨q, cap, h1, h2, h3⟩ := h
 refine ⟨q, cap, h1, ?_, h3⟩
 rcases h2 with h | ⟨k, o, rfl, h4, h5⟩
 ·exact .inl h
 ·have hk : B ≤ k := h3 _ rfl
  have hb := hm.block k h4 (by omega) (by omega)
  refine .inr ⟨k, o, rfl, Nat.lt_of_lt_of_le h4 hm.size, fun i hi => ?_⟩
  obtain ⟨a0, a1, a2⟩ := h5 i hi
  exact ⟨(World.cell?_of_block (a := ⟨k, o + i * 3, none⟩) hb).trans a0, (World.cell?_of_block (a := ⟨k, o + i * 3 + 1, none⟩) hb).trans a1, (World.cell?_of_block (a := ⟨k, o + i * 3 + 2, none⟩) hb).trans a2⟩
theorem SlAt.below {w x : World} {B : Nat} {v : Value} {L : List Ev} (h : SlAt w B v L) (hb : Below w.heap.size w x) : SlAt x B v L := by
 obtain ⟨q, cap, h1, h2, h3⟩ := h
 exact ⟨q, cap, h1, h2.below hb, h3⟩
theorem Moved.below {a b : Nat} {w x : World} (h : Below w.heap.size w x) : Moved a b w x := ⟨h.os, h.tape, h.output, h.size, fun k hk _ _ => h.block k hk⟩
def TakesBy (k : List UInt8 → Int × Int × Nat) (s : ByteArray) (rb p : Nat) (w : World) (e : Ending) (w' : World) : Prop :=
 e = .returned (.tuple #[.int .i64 (k ((showL s.data.toList).drop p)).1, .int .i64 (k ((showL s.data.toList).drop p)).2.1]) ∧ IsRd w' rb s (p + (k ((showL s.data.toList).drop p)).2.2) ∧ w.grownBy w' (some rb)
def NumGives (k : List UInt8 → Int × Int × Nat) (s : ByteArray) (pb rb : Nat) (st : Stt) (w : World) (e : Ending) (w' : World) : Prop :=
 e = .returned (.int .i64 (numS k (showL s.data.toList) st).1) ∧ RdAt w' pb rb s (numS k (showL s.data.toList) st).2 ∧ Moved rb pb w w'
theorem bit_ask (s : ByteArray) (p : Nat) (hp : p ≤ 8 * s.size) : ∃ (v f : Int) (n : Nat), bitk ((showL s.data.toList).drop p) = (v, f, n) ∧ ask s.data.toList p 1 = (v, f) ∧ askTo s.data.toList p 1 = p + n := by
 have hdl : s.data.toList.length = s.size := rfl
 have hbl : ((showL s.data.toList).drop p).length = 8 * s.size - p := by rw [List.length_drop, showL_length]; rfl
 by_cases hsh : 8 * s.size < p + 1
 ·have ha : ask s.data.toList p 1 = (0, 2) := ask_short (by omega) (by rw [hdl]; omega)
  refine ⟨0, 2, 0, ?_, ha, by unfold askTo; rw [ha]; rfl⟩
  cases hd : (showL s.data.toList).drop p with
  | nil => rfl
  | cons a l => rw [hd] at hbl; simp at hbl; omega
 ·have ha : ask s.data.toList p 1 = (((tell s.data.toList p 1 : Nat) : Int), 0) := ask_ok (by omega) (by rw [hdl]; omega)
  obtain ⟨t, ht, h01, hd⟩ := first_bitP s p (by omega)
  rw [ht] at ha
  refine ⟨t, 0, 1, ?_, ha, by unfold askTo; rw [ha]; rfl⟩
  cases hc : (showL s.data.toList).drop p with
  | nil => rw [hc] at hd; cases hd
  | cons a l =>
   rw [hc] at hd
   have : a = UInt8.ofNat (48 + t) := by simpa using hd
   subst this
   rcases h01 with rfl | rfl <;> rfl
theorem celbit_code (w : World) (rb : Nat) (s : ByteArray) (p : Nat) (hr : IsRd w rb s p) : Calls Tryz.prog 60 #[.pointer (some ⟨rb, 0, none⟩)] w (TakesBy bitk s rb p w) := by
 have hc := take_code w rb s p 1 hr
 obtain ⟨v, f, n, hb, ha, ht⟩ := bit_ask s p hr.2.1
 unfold TakesBy
 rw [hb]
 rw [ha, ht] at hc
 clear ha ht hb hr
 go_enter Tryz.func60, Tryz.ntmps60
 go_wp2_with fail
 refine hc.mono ?_
 rintro e w1 ⟨rfl, hr1, hg1⟩
 go_wp2
 go_ret2
 exact ⟨rfl, hr1, hg1⟩
theorem fn_enterC {f : FuncId} {fn : Func} {c : Code} (hf : Tryz.prog.funcs[f]? = some fn) (hname : (fn.name == "runtime.NumGoroutine") = false) (hb : fn.body = some c) (args : Array Value) (w : World) : (callFunc f args).run Tryz.prog w = .ok (.enter f args) w := by
 have h1 : fn.name ≠ "runtime.NumGoroutine" := by simpa using hname
 simp [callFunc, hf, h1, hb]
theorem cnumber_code (k : List UInt8 → Int × Int × Nat) (fn : FuncId) (w : World) (pb rb : Nat) (s : ByteArray) (st : Stt) (hr : RdAt w pb rb s st) (hen : ∀ args x, (callFunc fn args).run Tryz.prog x = .ok (.enter fn args) x)
  (hk : IsRd w rb s st.1 → Calls Tryz.prog fn #[.pointer (some ⟨rb, 0, none⟩)] w (TakesBy k s rb st.1 w)) :
  Calls Tryz.prog 44 #[.pointer (some ⟨pb, 0, none⟩), .func (.func fn) #[] #[]] w (NumGives k s pb rb st w) := by
 obtain ⟨p, f⟩ := st
 have c0 := part_cells (o := 0) hr.1 rfl
 have c1 := part_cells (o := 1) hr.1 rfl
 simp only at c0 c1
 unfold NumGives
 by_cases hf : f = 0
 ·subst hf
  have hk := hk hr.2.1
  unfold TakesBy at hk
  rw [numS_ok]
  simp only at hk ⊢
  generalize k ((showL s.data.toList).drop p) = z at hk ⊢
  obtain ⟨v, f, n⟩ := z
  simp only at hk ⊢
  have HR := Lib.hid hr
  clear hr
  go_enter Tryz.func44, Tryz.ntmps44
  go_wp2_with fail
  refine hk.mono ?_
  rintro e w1 ⟨rfl, hr1, hg1⟩
  have h0 := (hg1.block pb HR.out.lt (by have := HR.out.2.2; simp; omega)).trans HR.out.1
  have hfr := part_free (o := 1) h0
  have hd0 := part_cells (o := 1) h0 rfl
  have ST := Lib.hid (HR.out.store (f := f) hr1 hg1)
  clear hr1 hg1 h0 hk c0 c1
  go_wp2
  go_ret
  exact ⟨rfl, ST.out⟩
 ·rw [numS_not hf]
  have t0 : (f != 0) = true := by simpa using hf
  go_enter Tryz.func44, Tryz.ntmps44
  go_wp2
  go_ret
  exact ⟨rfl, hr, Moved.refl _ _ _⟩
section
variable {N : Nat} {w : World} {pb rb : Nat} {s : ByteArray} {st : Stt}
theorem cnum_bit (hr : RdAt w pb rb s st) : Calls Tryz.prog 44 #[.pointer (some ⟨pb, 0, none⟩), .func (.func 60) #[] #[]] w (NumGives bitk s pb rb st w) :=
 cnumber_code bitk _ w pb rb s st hr (fn_enterC Tryz.func60 (by kernel_rfl) rfl) fun h => celbit_code w rb s st.1 h
theorem cnum_step (ht : TabsLo N w) (hN : N ≤ rb) (hr : RdAt w pb rb s st) : Calls Tryz.prog 44 #[.pointer (some ⟨pb, 0, none⟩), .func (.func 45) #[] #[]] w (NumGives stk s pb rb st w) :=
 cnumber_code stk _ w pb rb s st hr (fn_enterC Tryz.func45 (by kernel_rfl) rfl) fun h => (stake_code w rb s st.1 ht.steps (by have := ht.lo.2.2.2.1; omega) h).mono fun _ _ h => h
theorem cnum_diff (ht : TabsLo N w) (hr : RdAt w pb rb s st) : Calls Tryz.prog 44 #[.pointer (some ⟨pb, 0, none⟩), .func (.func 47) #[] #[]] w (NumGives dtk s pb rb st w) :=
 cnumber_code dtk _ w pb rb s st hr (fn_enterC Tryz.func47 (by kernel_rfl) rfl) fun h => (dget_code w rb s st.1 ht.mvd h).mono fun _ _ h => h
end
theorem cpat_code {N : Nat} {w : World} {pb rb : Nat} {s : ByteArray} {st : Stt} (intra : Bool) (ht : TabsLo N w) (hr : RdAt w pb rb s st) :
  Calls Tryz.prog 43 #[.pointer (some ⟨pb, 0, none⟩), .bool intra] w (NumGives (ptk intra) s pb rb st w) := by
 obtain ⟨p, f⟩ := st
 have c0 := part_cells (o := 0) hr.1 rfl
 have c1 := part_cells (o := 1) hr.1 rfl
 simp only at c0 c1
 unfold NumGives
 by_cases hf : f = 0
 ·subst hf
  have hk := ptake_code intra w rb s p ht.pats hr.2.1
  unfold PTake at hk
  rw [numS_ok]
  generalize ptk intra ((showL s.data.toList).drop p) = z at hk ⊢
  obtain ⟨v, f, n⟩ := z
  simp only at hk ⊢
  have HR := Lib.hid hr
  clear hr ht
  go_enter Tryz.func43, Tryz.ntmps43
  go_wp2_with fail
  refine hk.mono ?_
  rintro e w1 ⟨rfl, hr1, hg1⟩
  have h0 := (hg1.block pb HR.out.lt (by have := HR.out.2.2; simp; omega)).trans HR.out.1
  have hfr := part_free (o := 1) h0
  have hd0 := part_cells (o := 1) h0 rfl
  have ST := Lib.hid (HR.out.store (f := f) hr1 hg1)
  clear hr1 hg1 h0 hk c0 c1
  go_wp2
  go_ret
  exact ⟨rfl, ST.out⟩
 ·rw [numS_not hf]
  have t0 : (f != 0) = true := by simpa using hf
  clear ht
  go_enter Tryz.func43, Tryz.ntmps43
  go_wp2
  go_ret
  exact ⟨rfl, hr, Moved.refl _ _ _⟩
def KinGives (inter : Bool) (s : ByteArray) (pb rb : Nat) (st : Stt) (w : World) (e : Ending) (w' : World) : Prop :=
 e = .returned (.tuple #[.int .i64 (kinS inter (showL s.data.toList) st).1, .int .i64 (kinS inter (showL s.data.toList) st).2.1]) ∧ RdAt w' pb rb s (kinS inter (showL s.data.toList) st).2.2 ∧ Moved rb pb w w'
theorem ckind_code {w : World} {pb rb : Nat} {s : ByteArray} {st : Stt} (inter : Bool) (hr : RdAt w pb rb s st) :
  Calls Tryz.prog 61 #[.pointer (some ⟨pb, 0, none⟩), .bool inter] w (KinGives inter s pb rb st w) := by
 obtain ⟨p, f⟩ := st
 have c0 := part_cells (o := 0) hr.1 rfl
 have c1 := part_cells (o := 1) hr.1 rfl
 simp only at c0 c1
 unfold KinGives
 by_cases hf : f = 0
 ·subst hf
  have hk := mtake_code inter w rb s p hr.2.1
  unfold MTake at hk
  rw [kinS_ok]
  generalize mtk inter ((showL s.data.toList).drop p) = z at hk ⊢
  obtain ⟨v, v2, f, n⟩ := z
  simp only at hk ⊢
  have HR := Lib.hid hr
  clear hr
  go_enter Tryz.func61, Tryz.ntmps61
  go_wp2_with fail
  refine hk.mono ?_
  rintro e w1 ⟨rfl, hr1, hg1⟩
  have h0 := (hg1.block pb HR.out.lt (by have := HR.out.2.2; simp; omega)).trans HR.out.1
  have hfr := part_free (o := 1) h0
  have hd0 := part_cells (o := 1) h0 rfl
  have ST := Lib.hid (HR.out.store (f := f) hr1 hg1)
  clear hr1 hg1 h0 hk c0 c1
  go_wp2
  go_ret2
  exact ⟨rfl, ST.out⟩
 ·rw [kinS_not hf]
  have t0 : (f != 0) = true := by simpa using hf
  go_enter Tryz.func61, Tryz.ntmps61
  go_wp2
  go_ret2
  exact ⟨rfl, hr, Moved.refl _ _ _⟩
def CblkGives (intra coded : Bool) (s : ByteArray) (pb rb : Nat) (st : Stt) (w : World) (e : Ending) (w' : World) : Prop :=
 ∃ v, e = .returned (.tuple #[.int .i64 (blkS intra coded (showL s.data.toList) st).1, v]) ∧ SlAt w' w.heap.size v (blkS intra coded (showL s.data.toList) st).2.1 ∧ RdAt w' pb rb s (blkS intra coded (showL s.data.toList) st).2.2 ∧ Moved rb pb w w'
theorem cblock_code {N : Nat} {w : World} {pb rb : Nat} {s : ByteArray} {st : Stt} (intra coded : Bool) (ht : TabsLo N w) (hr : RdAt w pb rb s st) :
  Calls Tryz.prog 48 #[.pointer (some ⟨pb, 0, none⟩), .bool intra, .bool coded] w (CblkGives intra coded s pb rb st w) := by
 obtain ⟨p, f⟩ := st
 have c0 := part_cells (o := 0) hr.1 rfl
 have c1 := part_cells (o := 1) hr.1 rfl
 simp only at c0 c1
 unfold CblkGives
 by_cases hf : f = 0
 ·subst hf
  have hk := btake_own w rb s p intra coded ht.tcoef hr.2.1
  unfold BTakeO at hk
  rw [blkS_ok]
  generalize btk (showL s.data.toList) p intra coded = z at hk ⊢
  obtain ⟨d, L, q, f⟩ := z
  simp only at hk ⊢
  have HR := Lib.hid hr
  clear hr ht
  go_enter Tryz.func48, Tryz.ntmps48
  go_wp2_with fail
  refine hk.mono ?_
  rintro e w1 ⟨d1, L1, f1, t1, m, a, cap, heq, rfl, hm, hev, hr1, hg1, hfm⟩
  simp only [Prod.mk.injEq] at heq
  obtain ⟨rfl, rfl, rfl, rfl⟩ := heq
  have h0 := (hg1.block pb HR.out.lt (by have := HR.out.2.2; simp; omega)).trans HR.out.1
  have hfr := part_free (o := 1) h0
  have hd0 := part_cells (o := 1) h0 rfl
  have ST := Lib.hid (HR.out.store (f := f) hr1 hg1)
  have SL := Lib.hid ((show SlAt w1 w.heap.size (.slice a L.length cap) L from ⟨a, cap, rfl, hev, hfm⟩).moved (Moved.set (a := pb) (b := pb) (p := ⟨pb, 1, none⟩) (.int .i64 f) (.inl rfl)) HR.out.lt HR.out.lt)
  rw [hm] at SL
  clear hr1 hg1 h0 hk c0 c1 hev hfm
  go_wp2
  go_ret2
  exact ⟨_, rfl, SL.out, ST.out⟩
 ·rw [blkS_not hf]
  have t0 : (f != 0) = true := by simpa using hf
  clear ht
  go_enter Tryz.func48, Tryz.ntmps48
  go_wp2
  go_ret2
  exact ⟨_, rfl, SlAt.nil _ _, hr, Moved.refl _ _ _⟩
end Go.Proofs.YtekjgcchnmnplaaGreatDoor

namespace Go.Proofs.YtekjgcchnmnplaaGreatDoor
open Go.RowKit Go.Lib
theorem Moved.onto {a b N : Nat} {w x y : World} (h : Moved a b w x) (hb : Below N x y) (hN : w.heap.size ≤ N) : Moved a b w y :=
 ⟨hb.os.trans h.os, hb.tape.trans h.tape, hb.output.trans h.output, Nat.le_trans h.size hb.size, fun k hk h1 h2 => (hb.block k (by omega)).trans (h.block k hk h1 h2)⟩
theorem below_set {w x : World} {R : Nat} (h : w.grownBy x (some R)) (hR : R < w.heap.size) : Below R w x :=
 ⟨h.os, h.tape, h.output, h.size, fun k hk => h.block k (by omega) (by simp; omega)⟩
theorem RdAt.wrong {w : World} {pb rb : Nat} {s : ByteArray} {st : Stt} (f : Int) (h : RdAt w pb rb s st) :
  RdAt (w.setCell ⟨pb, 1, none⟩ (.int .i64 f)) pb rb s (st.1, f) ∧ Moved rb pb w (w.setCell ⟨pb, 1, none⟩ (.int .i64 f)) :=
 h.store h.2.1 ⟨rfl, rfl, rfl, Nat.le_refl _, fun _ _ _ => rfl⟩
theorem cel_size (c : Cel) (sl : Nat → Value) : (Tryz.prog.info? 27).map (·.size) = some (celL c sl).toArray.size := by kernel_rfl
theorem cel_one (c : Cel) (sl : Nat → Value) (h : ∀ i, i < 6 → (sl i).oneCell' = true) : (celL c sl).toArray.all (·.oneCell') = true := by
 rw [Array.all_eq_true_iff_forall_mem]
 intro v hv
 have hm : v ∈ celL c sl := by simpa using hv
 simp only [celL, List.mem_cons, List.not_mem_nil, or_false] at hm
 rcases hm with rfl | rfl | rfl | rfl | rfl | rfl | rfl | rfl | rfl | rfl | rfl | rfl | rfl | rfl | rfl | rfl | rfl | rfl
 all_goals first | rfl | exact h _ (by omega)
def CbegGives (inter : Bool) (s : ByteArray) (pb rb : Nat) (st : Stt) (w : World) (e : Ending) (w' : World) : Prop :=
 ∃ (n : Nat) (sk : Bool) (k c : Int) (st' : Stt), begS inter (showL s.data.toList) 65 0 st = (n, sk, k, c, st') ∧ e = .returned (.tuple #[.agg (celL { celZ with stuff := n, skip := sk, kind := k } nilS).toArray, .int .i64 c]) ∧ RdAt w' pb rb s st' ∧ Moved rb pb w w'
set_option maxRecDepth 100000 in
set_option maxHeartbeats 2000000 in
theorem begin_code {w : World} {pb rb : Nat} {s : ByteArray} {st : Stt} (inter : Bool) (hr : RdAt w pb rb s st) :
  Calls Tryz.prog 42 #[.pointer (some ⟨pb, 0, none⟩), .bool inter] w (CbegGives inter s pb rb st w) := by
 obtain ⟨R, hR⟩ : ∃ R, w.heap.size = R := ⟨_, rfl⟩
 obtain ⟨wA, hwA⟩ : ∃ x, w.alloc (.cells #[.int .i64 0, .bool false, .int .i64 0, .int .i64 0, .int .i64 0, .int .i64 0, .int .i64 0, .int .i64 0, .int .i64 0, .int .i64 0, .int .i64 0, .int .i64 0, .slice none 0 0, .slice none 0 0, .slice none 0 0, .slice none 0 0, .slice none 0 0, .slice none 0 0] 27 (0, 0)) = x := ⟨_, rfl⟩
 have hbA : Below R w wA := by rw [← hwA, ← hR]; exact (Below.refl _ w).alloc (Nat.le_refl _) _
 have hzA : wA.heap.size = R + 1 := by rw [← hwA, ← hR]; simp
 have hA : wA.heap[R]? = some (.cells #[.int .i64 0, .bool false, .int .i64 0, .int .i64 0, .int .i64 0, .int .i64 0, .int .i64 0, .int .i64 0, .int .i64 0, .int .i64 0, .int .i64 0, .int .i64 0, .slice none 0 0, .slice none 0 0, .slice none 0 0, .slice none 0 0, .slice none 0 0, .slice none 0 0] 27 (0, 0)) := by rw [← hwA, ← hR]; exact heap_alloc_new w _
 obtain ⟨Y, hY⟩ : ∃ Y : Array Value, #[.int .i64 0, .bool false, .int .i64 0, .int .i64 0, .int .i64 0, .int .i64 0, .int .i64 0, .int .i64 0, .int .i64 0, .int .i64 0, .int .i64 0, .int .i64 0, .slice none 0 0, .slice none 0 0, .slice none 0 0, .slice none 0 0, .slice none 0 0, .slice none 0 0] = Y := ⟨_, rfl⟩
 have hYs : Y.size = 18 := by rw [← hY]; rfl
 rw [hY] at hA
 clear hY
 have HYS : ∀ (n k : Int) (sk : Bool), Y.size = ((#[.int .i64 n, .bool sk, .int .i64 k, .int .i64 0, .int .i64 0, .int .i64 0, .int .i64 0, .int .i64 0, .int .i64 0, .int .i64 0, .int .i64 0, .int .i64 0, .slice none 0 0, .slice none 0 0, .slice none 0 0, .slice none 0 0, .slice none 0 0, .slice none 0 0] : Array Value)).size := fun _ _ _ => hYs
 have HSZ : ∀ (n k : Int) (sk : Bool), (Tryz.prog.info? 27).map (·.size) = some ((#[.int .i64 n, .bool sk, .int .i64 k, .int .i64 0, .int .i64 0, .int .i64 0, .int .i64 0, .int .i64 0, .int .i64 0, .int .i64 0, .int .i64 0, .int .i64 0, .slice none 0 0, .slice none 0 0, .slice none 0 0, .slice none 0 0, .slice none 0 0, .slice none 0 0] : Array Value)).size := fun n k sk => cel_size { celZ with stuff := n, skip := sk, kind := k } nilS
 have HONE : ∀ (n k : Int) (sk : Bool), ((#[.int .i64 n, .bool sk, .int .i64 k, .int .i64 0, .int .i64 0, .int .i64 0, .int .i64 0, .int .i64 0, .int .i64 0, .int .i64 0, .int .i64 0, .int .i64 0, .slice none 0 0, .slice none 0 0, .slice none 0 0, .slice none 0 0, .slice none 0 0, .slice none 0 0] : Array Value)).all (·.oneCell') = true := fun n k sk => cel_one { celZ with stuff := n, skip := sk, kind := k } nilS fun _ _ => rfl
 have hpb : pb < R := hR ▸ hr.lt
 have hrb : rb < pb := hr.2.2
 have hrA : RdAt wA pb rb s st := hr.under hbA hpb
 have hmA : Moved rb pb w wA := (Moved.refl rb pb w).onto hbA (by omega)
 have HWA := Lib.hid hwA
 have HR := Lib.hid hR
 have HY := Lib.hid HYS
 clear hwA hR hYs hbA hr
 go_enter Tryz.func42, Tryz.ntmps42
 go_wp2
 rw [HWA.out, HR.out]
 go_loopw [9] (fun z wr => ∃ (i : Nat) (st' : Stt), i ≤ 65 ∧ z = .int .i64 i ∧ RdAt wr pb rb s st' ∧ Hid (begS inter (showL s.data.toList) 65 0 st = begS inter (showL s.data.toList) (65 - i) i st') ∧ Moved rb pb w wr ∧ wr.heap[R]? = some (.cells Y 27 (0, 0)) ∧ R < wr.heap.size) (fun z _ => 65 - (intOf z).toNat)
 case atStart => exact ⟨0, st, by omega, rfl, hrA, Lib.hid rfl, hmA, hA, by omega⟩
 case round =>
  clear hrA hmA hA hzA
  obtain ⟨i, st1, hi, rfl, hr1, hs, hm1, hA1, hz1⟩ := hrel
  by_cases hlt : i < 65
  ·have t0 : decide ((i : Int) < 65) = true := by simp; omega
   obtain ⟨j, hj⟩ : ∃ j, 65 - i = j + 1 := ⟨64 - i, by omega⟩
   have hs' := hs.out
   rw [hj] at hs'
   have hj2 : j = 65 - (i + 1) := by omega
   have HJ := Lib.hid hj2
   clear hj hj2 hs
   cases inter with
   | true =>
    have cb := cnum_bit hr1
    unfold NumGives at cb
    generalize hnum : numS bitk (showL s.data.toList) st1 = z at cb
    obtain ⟨v, st2⟩ := z
    simp only at cb
    have HNUM := Lib.hid hnum
    clear hnum
    by_cases hv : v = 1
    ·have F := Lib.hid (show begS true (showL s.data.toList) 65 0 st = (i, true, 0, 0, st2) by rw [hs']; exact begS_skip rfl HNUM.out hv)
     subst hv
     clear hs'
     go_wp2_with fail
     refine cb.mono ?_
     rintro e w2 ⟨rfl, hr2, hm⟩
     have hA2 := (hm.block R hz1 (by omega) (by omega)).trans hA1
     have hz2 := Nat.lt_of_lt_of_le hz1 hm.size
     have hm2 := hm1.trans hm
     clear cb hm hr1 hm1 hA1 hz1
     go_wp2_with (with_reducible refine wp_store_arr rfl 27 _ _ rfl R _ Y rfl rfl 27 hA2 (HSZ _ _ _) (HY.out _ _ _) (HONE _ _ _) ?_; intro w5 hh5 hg5)
     have hb5 := below_set hg5 hz2
     refine bodyPost_ret (results_pair rfl _ _ R 27 _ (0, 0) _ rfl hh5 Tryz.underlying27 rfl (by kernel_rfl)) rfl ?_
     exact ⟨i, true, 0, 0, st2, F.out, rfl, hr2.under hb5 hpb, hm2.onto hb5 (Nat.le_of_eq HR.out)⟩
    ·have g1 : (v == 1) = false := by simpa using hv
     have HV := Lib.hid hv
     clear hv
     go_wp2_with fail
     refine cb.mono ?_
     rintro e w3 ⟨rfl, hr2, hm⟩
     have hA2 := (hm.block R hz1 (by omega) (by omega)).trans hA1
     have hz2 := Nat.lt_of_lt_of_le hz1 hm.size
     have hm2 := hm1.trans hm
     clear cb hm hr1 hm1 hA1 hz1
     have ck := ckind_code true hr2
     unfold KinGives at ck
     generalize hkin : kinS true (showL s.data.toList) st2 = z at ck
     obtain ⟨a, c, st3⟩ := z
     simp only at ck
     have HKIN := Lib.hid hkin
     clear hkin
     by_cases ha5 : a = 5
     ·subst ha5
      have F := Lib.hid (show begS true (showL s.data.toList) 65 0 st = begS true (showL s.data.toList) j (i + 1) st3 by rw [hs']; exact (begS_bit HNUM.out HV.out HKIN.out).trans (if_pos rfl))
      clear hs'
      go_wp2_with fail
      refine ck.mono ?_
      rintro e w2 ⟨rfl, hr3, hm⟩
      have hA3 := (hm.block R hz2 (by omega) (by omega)).trans hA2
      have hz3 := Nat.lt_of_lt_of_le hz2 hm.size
      have hm3 := hm2.trans hm
      clear ck hm hr2 hm2 hA2 hz2
      go_wp2
      go_roundw
      case rel => exact ⟨i + 1, st3, by omega, by go_num, hr3, Lib.hid (by rw [F.out, HJ.out]), hm3, hA3, hz3⟩
      case measure => simp [intOf]; omega
     ·have g5 : (a != 5) = true := by simpa using ha5
      have F := Lib.hid (show begS true (showL s.data.toList) 65 0 st = (i, false, a, c, st3) by rw [hs']; exact (begS_bit HNUM.out HV.out HKIN.out).trans (if_neg ha5))
      clear hs' ha5
      go_wp2_with fail
      refine ck.mono ?_
      rintro e w2 ⟨rfl, hr3, hm⟩
      have hA3 := (hm.block R hz2 (by omega) (by omega)).trans hA2
      have hz3 := Nat.lt_of_lt_of_le hz2 hm.size
      have hm3 := hm2.trans hm
      clear ck hm hr2 hm2 hA2 hz2
      go_wp2_with (with_reducible refine wp_store_arr rfl 27 _ _ rfl R _ Y rfl rfl 27 hA3 (HSZ _ _ _) (HY.out _ _ _) (HONE _ _ _) ?_; intro w5 hh5 hg5)
      have hb5 := below_set hg5 hz3
      refine bodyPost_ret (results_pair rfl _ _ R 27 _ (0, 0) _ rfl hh5 Tryz.underlying27 rfl (by kernel_rfl)) rfl ?_
      exact ⟨i, false, a, c, st3, F.out, rfl, hr3.under hb5 hpb, hm3.onto hb5 (Nat.le_of_eq HR.out)⟩
   | false =>
    have ck := ckind_code false hr1
    unfold KinGives at ck
    generalize hkin : kinS false (showL s.data.toList) st1 = z at ck
    obtain ⟨a, c, st2⟩ := z
    simp only at ck
    have HKIN := Lib.hid hkin
    clear hkin
    by_cases ha5 : a = 5
    ·subst ha5
     have F := Lib.hid (show begS false (showL s.data.toList) 65 0 st = begS false (showL s.data.toList) j (i + 1) st2 by rw [hs']; exact (begS_none HKIN.out).trans (if_pos rfl))
     clear hs'
     go_wp2_with fail
     refine ck.mono ?_
     rintro e w2 ⟨rfl, hr2, hm⟩
     have hA2 := (hm.block R hz1 (by omega) (by omega)).trans hA1
     have hz2 := Nat.lt_of_lt_of_le hz1 hm.size
     have hm2 := hm1.trans hm
     clear ck hm hr1 hm1 hA1 hz1
     go_wp2
     go_roundw
     case rel => exact ⟨i + 1, st2, by omega, by go_num, hr2, Lib.hid (by rw [F.out, HJ.out]), hm2, hA2, hz2⟩
     case measure => simp [intOf]; omega
    ·have g5 : (a != 5) = true := by simpa using ha5
     have F := Lib.hid (show begS false (showL s.data.toList) 65 0 st = (i, false, a, c, st2) by rw [hs']; exact (begS_none HKIN.out).trans (if_neg ha5))
     clear hs' ha5
     go_wp2_with fail
     refine ck.mono ?_
     rintro e w2 ⟨rfl, hr2, hm⟩
     have hA2 := (hm.block R hz1 (by omega) (by omega)).trans hA1
     have hz2 := Nat.lt_of_lt_of_le hz1 hm.size
     have hm2 := hm1.trans hm
     clear ck hm hr1 hm1 hA1 hz1
     go_wp2_with (with_reducible refine wp_store_arr rfl 27 _ _ rfl R _ Y rfl rfl 27 hA2 (HSZ _ _ _) (HY.out _ _ _) (HONE _ _ _) ?_; intro w5 hh5 hg5)
     have hb5 := below_set hg5 hz2
     refine bodyPost_ret (results_pair rfl _ _ R 27 _ (0, 0) _ rfl hh5 Tryz.underlying27 rfl (by kernel_rfl)) rfl ?_
     exact ⟨i, false, a, c, st2, F.out, rfl, hr2.under hb5 hpb, hm2.onto hb5 (Nat.le_of_eq HR.out)⟩
  ·obtain rfl : i = 65 := by omega
   have t0 : decide ((65 : Int) < 65) = false := by simp
   have F := Lib.hid (show begS inter (showL s.data.toList) 65 0 st = (0, false, 0, 0, st1.1, 13) by rw [hs.out]; rfl)
   obtain ⟨hr2, hm⟩ := hr1.wrong 13
   have hA2 := (hm.block R hz1 (by omega) (by omega)).trans hA1
   have hz2 := Nat.lt_of_lt_of_le hz1 hm.size
   have hm2 := hm1.trans hm
   have c1 := part_cells (o := 1) hr1.1 rfl
   have hfr := part_free (o := 1) hr1.1
   clear hs hm hr1 hm1 hA1 hz1
   go_wp2_with (with_reducible refine wp_store_arr rfl 27 _ _ rfl R _ Y rfl rfl 27 hA2 (HSZ _ _ _) (HY.out _ _ _) (HONE _ _ _) ?_; intro w5 hh5 hg5)
   have hb5 := below_set hg5 hz2
   refine bodyPost_ret (results_pair rfl _ _ R 27 _ (0, 0) _ rfl hh5 Tryz.underlying27 rfl (by kernel_rfl)) rfl ?_
   exact ⟨0, false, 0, 0, _, F.out, rfl, hr2.under hb5 hpb, hm2.onto hb5 (Nat.le_of_eq HR.out)⟩
end Go.Proofs.YtekjgcchnmnplaaGreatDoor

namespace Go.Proofs.YtekjgcchnmnplaaGreatDoor
open Go.RowKit Go.Lib
def cutC (D : Cel) (i : Nat) : Cel := { D with dc := fun j => if j < i then D.dc j else 0 }
theorem cutC_more (D : Cel) (i : Nat) : { cutC D i with dc := setF (cutC D i).dc i (D.dc i) } = cutC D (i + 1) := by
 have h : setF (cutC D i).dc i (D.dc i) = (cutC D (i + 1)).dc := by
  funext j
  show (if j = i then D.dc i else if j < i then D.dc j else 0) = if j < i + 1 then D.dc j else 0
  by_cases e : j = i
  ·rw [if_pos e, if_pos (by omega), e]
  ·rw [if_neg e]
   by_cases h : j < i
   ·rw [if_pos h, if_pos (by omega)]
   ·rw [if_neg h, if_neg (by omega)]
 rw [h]
 rfl
theorem celL_set_dc (c : Cel) (sl : Nat → Value) (v : Int) : ∀ i, i < 6 → (celL c sl).set (6 + i) (.int .i64 v) = celL { c with dc := setF c.dc i v } sl
 | 0, _ => rfl
 | 1, _ => rfl
 | 2, _ => rfl
 | 3, _ => rfl
 | 4, _ => rfl
 | 5, _ => rfl
def setV (sl : Nat → Value) (i : Nat) (v : Value) : Nat → Value := fun j => if j = i then v else sl j
theorem celL_set_ev (c : Cel) (sl : Nat → Value) (v : Value) : ∀ i, i < 6 → (celL c sl).set (12 + i) v = celL c (setV sl i v)
 | 0, _ => rfl
 | 1, _ => rfl
 | 2, _ => rfl
 | 3, _ => rfl
 | 4, _ => rfl
 | 5, _ => rfl
theorem celL_six {c : Cel} {f : Nat → Int} {sl : Nat → Value} (h : ∀ i, i < 6 → c.dc i = f i) : celL c sl = celL { c with dc := f } sl := by
 unfold celL
 rw [h 0 (by omega), h 1 (by omega), h 2 (by omega), h 3 (by omega), h 4 (by omega), h 5 (by omega)]
theorem cutC_all (D : Cel) (sl : Nat → Value) : celL (cutC D 6) sl = celL D sl := celL_six (c := cutC D 6) (f := D.dc) fun _ hi => if_pos hi
theorem cel_zero (w : World) : (zeroValue 27).run Tryz.prog w = .ok (.agg (celL celZ nilS).toArray) w := by
 have h : (Tryz.prog.info? 27).map (fun i => i.zero) = some (some (.agg (celL celZ nilS).toArray)) := by kernel_rfl
 generalize (celL celZ nilS).toArray = Z at h ⊢
 cases hq : Tryz.prog.info? 27 with
 | none => simp [hq] at h
 | some i =>
  simp [hq] at h
  simp [zeroValue, typeInfo, hq, h]
def vecN (S : List UInt8) (x y : Int) (st : Stt) : Nat → Int × Int × Stt
 | 0 => (0, 0, st)
 | 1 => ((oneS S x st).1, 0, (oneS S x st).2)
 | _ => ((oneS S x st).1, (oneS S y (oneS S x st).2).1, (oneS S y (oneS S x st).2).2)
theorem vec_two {S : List UInt8} {k x y : Int} {st : Stt} (h : intraK k = false) : vecS S k x y st = vecN S x y st 2 := by
 unfold vecS
 rw [h]
 rfl
structure CwAt (w wr : World) (pb rb A R C : Nat) (s : ByteArray) (x y : Int) (Y : Array Value) (st : Stt) (c : Cel) (sl : Nat → Value) : Prop where
 rd : RdAt wr pb rb s st
 mv : Moved rb pb w wr
 two : wr.heap[A]? = some (.cells #[.int .i64 x, .int .i64 y] 22 (0, 0))
 res : wr.heap[R]? = some (.cells Y 27 (0, 0))
 cel : wr.heap[C]? = some (.cells (celL c sl).toArray 27 (0, 0))
 lt : rb < pb ∧ pb < A ∧ A < R ∧ R < C ∧ C < wr.heap.size ∧ w.heap.size ≤ A
section
variable {w wr z : World} {pb rb A R C : Nat} {s : ByteArray} {x y : Int} {Y : Array Value} {st st' : Stt} {c c' : Cel} {sl sl' : Nat → Value}
theorem CwAt.move (h : CwAt w wr pb rb A R C s x y Y st c sl) (hr : RdAt z pb rb s st') (hm : Moved rb pb wr z) : CwAt w z pb rb A R C s x y Y st' c sl := by
 obtain ⟨l1, l2, l3, l4, l5, l6⟩ := h.lt
 exact ⟨hr, h.mv.trans hm, (hm.block A (by omega) (by omega) (by omega)).trans h.two, (hm.block R (by omega) (by omega) (by omega)).trans h.res, (hm.block C l5 (by omega) (by omega)).trans h.cel, l1, l2, l3, l4, Nat.lt_of_lt_of_le l5 hm.size, l6⟩
theorem CwAt.set (h : CwAt w wr pb rb A R C s x y Y st c sl) (o : Nat) (v : Value) (hs : (celL c sl).set o v = celL c' sl') : CwAt w (wr.setCell ⟨C, o, none⟩ v) pb rb A R C s x y Y st c' sl' := by
 obtain ⟨l1, l2, l3, l4, l5, l6⟩ := h.lt
 have hb : Below C wr (wr.setCell ⟨C, o, none⟩ v) := ⟨rfl, rfl, rfl, by simp [World.setCell], fun k hk => Below.heap_setCell _ _ _ _ (by simp; omega)⟩
 refine ⟨h.rd.under hb (by omega), h.mv.onto hb (by omega), (hb.block A (by omega)).trans h.two, (hb.block R l4).trans h.res, ?_, l1, l2, l3, l4, Nat.lt_of_lt_of_le l5 hb.size, l6⟩
 rw [← hs]
 exact part_set (o := o) v h.cel
theorem CwAt.same (h : CwAt w wr pb rb A R C s x y Y st c sl) (he : celL c sl = celL c' sl') : CwAt w wr pb rb A R C s x y Y st c' sl' :=
 ⟨h.rd, h.mv, h.two, h.res, he ▸ h.cel, h.lt⟩
end
theorem bits_one (c k : Nat) : (bits .and .i64 ((c : Int) / 2 ^ k) 1 == 1) = (c / 2 ^ k % 2 == 1) := by
 have h := and_low ((c : Int) / 2 ^ k) 1 (by omega)
 have h2 : ((2 : Int) ^ 1 - 1) = 1 := rfl
 rw [h2] at h
 rw [h]
 rw [Bool.eq_iff_iff, beq_iff_eq, beq_iff_eq]
 have h3 : ((c : Int) / 2 ^ k) = ((c / 2 ^ k : Nat) : Int) := by simp
 rw [h3]
 omega
def CcellGives (inter : Bool) (s : ByteArray) (pb rb : Nat) (x y : Int) (st : Stt) (w : World) (e : Ending) (w' : World) : Prop :=
 ∃ (c : Cel) (st' : Stt) (sl : Nat → Value), celS inter (showL s.data.toList) x y st = (c, st') ∧ e = .returned (.agg (celL c sl).toArray) ∧ (∀ i, i < 6 → SlAt w' w.heap.size (sl i) (c.ev i)) ∧ RdAt w' pb rb s st' ∧ Moved rb pb w w'
set_option maxRecDepth 100000 in
set_option maxHeartbeats 4000000 in
theorem cell_code {N : Nat} {w : World} {pb rb : Nat} {s : ByteArray} {st : Stt} (inter : Bool) (x y : Int) (ht : TabsLo N w) (hN : N ≤ rb) (hr : RdAt w pb rb s st) :
  Calls Tryz.prog 28 #[.pointer (some ⟨pb, 0, none⟩), .bool inter, .agg #[.int .i64 x, .int .i64 y]] w (CcellGives inter s pb rb x y st w) := by
 obtain ⟨Y, hY⟩ : ∃ Y : Array Value, (celL celZ nilS).toArray = Y := ⟨_, rfl⟩
 have hzv : ∀ w, (zeroValue 27).run Tryz.prog w = .ok (.agg Y) w := by rw [← hY]; exact cel_zero
 obtain ⟨A, wA, wB, hA, hwA, hwB, hzA, hzB, hC0, hC1, hbB⟩ := laid2 w (.cells #[.int .i64 x, .int .i64 y] 22 (0, 0)) (.cells Y 27 (0, 0))
 have hpA : pb < A := hA ▸ hr.lt
 have hrp : rb < pb := hr.2.2
 have hrB : RdAt wB pb rb s st := hr.under hbB hpA
 have hmB : Moved rb pb w wB := (Moved.refl rb pb w).onto hbB (Nat.le_of_eq hA)
 have htx : ∀ z, Moved rb pb w z → TabsLo N z := fun z hz => ht.below (hz.under (by have := hr.lt; omega) hN (by omega))
 have cb := begin_code inter hrB
 have HY := Lib.hid hY
 have HA := Lib.hid hA
 have HWA := Lib.hid hwA
 have HWB := Lib.hid hwB
 have HT := Lib.hid htx
 clear hY hA hwA hwB htx ht hr
 go_enter Tryz.func28, Tryz.ntmps28
 go_wp2_with fail
 rw [HWA.out, HA.out, HWB.out]
 refine cb.mono ?_
 rintro e w1 ⟨n, sk, k, ch, st1, hbeg, rfl, hr1, hm1⟩
 obtain ⟨Z, hZ⟩ : ∃ Z, (celL { celZ with stuff := n, skip := sk, kind := k } nilS).toArray = Z := ⟨_, rfl⟩
 rw [hZ]
 obtain ⟨C, hC⟩ : ∃ C, w1.heap.size = C := ⟨_, rfl⟩
 obtain ⟨w2, hw2⟩ : ∃ z, w1.alloc (.cells Z 27 (0, 0)) = z := ⟨_, rfl⟩
 have AT : CwAt w w2 pb rb A (A + 1) C s x y Y st1 { celZ with stuff := n, skip := sk, kind := k } nilS := by
  have hb2 : Below C w1 w2 := by rw [← hw2, ← hC]; exact (Below.refl _ w1).alloc (Nat.le_refl _) _
  have hz1 := hm1.size
  refine ⟨hr1.under hb2 (by omega), (hmB.trans hm1).onto hb2 (by have := HA.out; omega), ?_, ?_, ?_, hrp, hpA, by omega, by omega, by rw [← hw2, ← hC]; simp, Nat.le_of_eq HA.out⟩
  ·exact (hb2.block A (by omega)).trans ((hm1.block A (by omega) (by omega) (by omega)).trans hC0)
  ·exact (hb2.block (A + 1) (by omega)).trans ((hm1.block (A + 1) (by omega) (by omega) (by omega)).trans hC1)
  ·rw [hZ, ← hw2, ← hC]; exact heap_alloc_new w1 _
 have HSZ : (Tryz.prog.info? 27).map (·.size) = some Z.size := hZ ▸ cel_size _ _
 have HYZ : Y.size = Z.size := by rw [← hZ, ← HY.out]; rfl
 have HONE : Z.all (·.oneCell') = true := hZ ▸ cel_one _ _ fun _ _ => rfl
 have HZ := Lib.hid hZ
 have HC := Lib.hid hC
 have HW2 := Lib.hid hw2
 have HBEG := Lib.hid hbeg
 have HAT := Lib.hid AT
 clear hZ hC hw2 hbeg AT hr1 hm1 hrB hmB hbB hC0 hC1 hzA hzB cb
 have hcel := HAT.out.cel
 rw [HZ.out] at hcel
 have hres := HAT.out.res
 have hC := HAT.out.lt
 have BIN := begS_in _ _ _ _ _ _ _ _ _ _ HBEG.out
 cases sk with
 | true =>
  have c1 : w2.cell? ⟨C, 1, none⟩ = some (.bool true) := part_cells (o := 1) HAT.out.cel rfl
  obtain rfl : 0 = k := (BIN.2.2.2.2.2.2 rfl).symm
  clear BIN
  go_wp2_with (first | (with_reducible refine wp_store_fresh rfl 27 _ _ rfl Z Y 27 rfl rfl HSZ HYZ HONE ?_; rw [HW2.out, HC.out]) | (with_reducible refine wpList_load_row rfl 27 _ rfl C rfl 27 Z (0, 0) _ hcel Tryz.underlying27 rfl HSZ ?_) | (with_reducible refine wp_store_arr rfl 27 _ _ rfl (A + 1) Z Y rfl rfl 27 hres HSZ HYZ HONE ?_; intro w5 hh5 hg5))
  have hb5 := below_set hg5 (by omega)
  refine bodyPost_ret (results_cell_row rfl _ _ (A + 1) 27 _ (0, 0) _ rfl hh5 Tryz.underlying27 rfl HSZ) rfl ?_
  exact ⟨_, st1, nilS, cel_skip HBEG.out, by rw [← HZ.out]; rfl, fun i hi => SlAt.nil _ _, HAT.out.rd.under hb5 (by omega), HAT.out.mv.onto hb5 (by omega)⟩
 | false =>
  obtain ⟨b0, b1, b2, b3, b4, b5, _⟩ := BIN
  obtain ⟨a, rfl⟩ : ∃ a : Nat, ch = (a : Int) := ⟨ch.toNat, by omega⟩
  have c1 : w2.cell? ⟨C, 1, none⟩ = some (.bool false) := part_cells (o := 1) HAT.out.cel rfl
  have c2 : w2.cell? ⟨C, 2, none⟩ = some (.int .i64 k) := part_cells (o := 2) HAT.out.cel rfl
  have c3 : w2.cell? ⟨C, 3, none⟩ = some (.int .i64 0) := part_cells (o := 3) HAT.out.cel rfl
  obtain hk | hk | hk | hk : k = 0 ∨ k = 1 ∨ k = 3 ∨ k = 4 := by omega
  ·subst hk
   have pin := pat_in false (showL s.data.toList) st1
   have cp := cpat_code false (HT.out _ HAT.out.mv) HAT.out.rd
   unfold NumGives at cp
   generalize hpt : numS (ptk false) (showL s.data.toList) st1 = z at cp pin
   obtain ⟨pt, s2⟩ := z
   simp only at cp pin
   obtain ⟨b, rfl⟩ : ∃ b : Nat, pt = (b : Int) := ⟨pt.toNat, by omega⟩
   have HPT : Hid (numS (ptk (intraK 0)) (showL s.data.toList) st1 = ((b : Int), s2)) := Lib.hid hpt
   obtain ⟨cd, hcd⟩ : ∃ cd, 4 * b + a = cd := ⟨_, rfl⟩
   have hcl : cd ≤ 63 := by omega
   have hb15 : (b : Int) ≤ 15 := by omega
   have ho : bits .or .i64 ((b : Int) * 4) (a : Int) = (cd : Int) := (or_add b 4 a 2 rfl (by omega) (by omega)).trans (by rw [hcd])
   have HCD := Lib.hid hcd
   clear hcd hpt
   go_wp2_with (with_reducible refine wp_store_fresh rfl 27 _ _ rfl Z Y 27 rfl rfl HSZ HYZ HONE ?_; rw [HW2.out, HC.out])
   refine cp.mono ?_
   rintro e w3 ⟨rfl, hr3, hm3⟩
   have AT3 := HAT.out.move hr3 hm3
   have d2 : w3.cell? ⟨C, 2, none⟩ = some (.int .i64 0) := part_cells (o := 2) AT3.cel rfl
   clear cp pin hr3 hm3 HAT hcel hres c1 c2 c3 HSZ HYZ HONE
   have HSTP : Hid (stpS (showL s.data.toList) 0 s2 = (0, s2)) := Lib.hid rfl
   go_wp2
   obtain ⟨mx, s4, hmx⟩ : ∃ mx s4, oneS (showL s.data.toList) x s2 = (mx, s4) := ⟨_, _, rfl⟩
   have HMX := Lib.hid hmx
   have HV0 : Hid (vecN (showL s.data.toList) x y s2 0 = (0, 0, s2)) := Lib.hid rfl
   have HV1 : Hid (vecN (showL s.data.toList) x y s2 1 = (mx, 0, s4)) := Lib.hid (congrArg (fun q => (q.1, (0 : Int), q.2)) hmx)
   have HV2 : Hid (vecN (showL s.data.toList) x y s2 2 = (mx, (oneS (showL s.data.toList) y s4).1, (oneS (showL s.data.toList) y s4).2)) := Lib.hid (by show ((oneS (showL s.data.toList) x s2).1, (oneS (showL s.data.toList) y (oneS (showL s.data.toList) x s2).2).1, (oneS (showL s.data.toList) y (oneS (showL s.data.toList) x s2).2).2) = _; rw [hmx])
   clear hmx
   have HATV := Lib.hid AT3
   clear AT3
   go_loopw [49] (fun z wr => ∃ i : Nat, i ≤ 2 ∧ z = .int .i64 i ∧ Hid (CwAt w wr pb rb A (A + 1) C s x y Y (vecN (showL s.data.toList) x y s2 i).2.2 { celZ with stuff := n, skip := false, kind := 0, step := 0, mx := (vecN (showL s.data.toList) x y s2 i).1, my := (vecN (showL s.data.toList) x y s2 i).2.1 } nilS)) (fun z _ => 2 - (intOf z).toNat)
   case atStart => exact ⟨0, by omega, rfl, Lib.hid (by rw [HV0.out]; exact HATV.out)⟩
   case round =>
    clear HATV
    obtain ⟨i, hi2, rfl, hat⟩ := hrel
    obtain rfl | rfl | rfl : i = 0 ∨ i = 1 ∨ i = 2 := by omega
    ·have AT2 : CwAt w wr pb rb A (A + 1) C s x y Y s2 { celZ with stuff := n, skip := false, kind := 0, step := 0, mx := 0, my := 0 } nilS := by have h := hat.out; rw [HV0.out] at h; exact h
     have p0 : wr.cell? ⟨A, 0, none⟩ = some (.int .i64 x) := part_cells (cs := [.int .i64 x, .int .i64 y]) AT2.two rfl
     have cd2 := cnum_diff (HT.out _ AT2.mv) AT2.rd
     unfold NumGives at cd2
     have din := diff_in (showL s.data.toList) s2
     have hon : oneS (showL s.data.toList) x s2 = (wrap (wrap x + (numS dtk (showL s.data.toList) s2).1), (numS dtk (showL s.data.toList) s2).2) := rfl
     generalize numS dtk (showL s.data.toList) s2 = z at cd2 din hon
     obtain ⟨dd, s6⟩ := z
     simp only at cd2 din hon
     have wl := wrap_lo x
     have wh := wrap_hi x
     have HON := Lib.hid hon
     have sw : IntKind.i64.wrap (wrap x + dd) = wrap x + dd := IntWalk.i64_in _ (by omega)
     generalize hwp : wrap x = p1 at HON sw wl wh
     have cw := wrap_code x
     rw [hwp] at cw
     have cw2 := wrap_code (p1 + dd)
     have HP1 := Lib.hid hwp
     generalize wrap (p1 + dd) = p2 at cw2 HON
     clear hat hon hwp
     go_wp2_with fail
     refine (cw _).mono ?_
     rintro e w6 ⟨rfl, rfl⟩
     go_wp2_with fail
     refine cd2.mono ?_
     rintro e w6 ⟨rfl, hr6, hm6⟩
     have AT6 := AT2.move hr6 hm6
     have e4 := part_cells (o := 4) AT6.cel rfl
     have f4 := part_free (o := 4) AT6.cel
     have AT7 := AT6.set 4 (.int .i64 p2) (c' := { celZ with stuff := n, skip := false, kind := 0, step := 0, mx := p2, my := 0 }) (sl' := nilS) rfl
     have N7 := Lib.hid AT7
     clear AT7 AT6 hr6 hm6 cd2 AT2
     go_wp2_with fail
     refine (cw2 _).mono ?_
     rintro e w8 ⟨rfl, rfl⟩
     go_wp2
     go_roundw
     case rel => exact ⟨1, by omega, by go_num, Lib.hid (by rw [show vecN (showL s.data.toList) x y s2 1 = (p2, 0, s6) from by rw [HV1.out]; exact congrArg (fun q => (q.1, (0 : Int), q.2)) (HMX.out.symm.trans HON.out)]; exact N7.out)⟩
     case measure => simp [intOf]
    ·have AT2 : CwAt w wr pb rb A (A + 1) C s x y Y s4 { celZ with stuff := n, skip := false, kind := 0, step := 0, mx := mx, my := 0 } nilS := by have h := hat.out; rw [HV1.out] at h; exact h
     have p0 : wr.cell? ⟨A, 1, none⟩ = some (.int .i64 y) := part_cells (cs := [.int .i64 x, .int .i64 y]) AT2.two rfl
     have cd2 := cnum_diff (HT.out _ AT2.mv) AT2.rd
     unfold NumGives at cd2
     have din := diff_in (showL s.data.toList) s4
     have hon : oneS (showL s.data.toList) y s4 = (wrap (wrap y + (numS dtk (showL s.data.toList) s4).1), (numS dtk (showL s.data.toList) s4).2) := rfl
     generalize numS dtk (showL s.data.toList) s4 = z at cd2 din hon
     obtain ⟨dd, s6⟩ := z
     simp only at cd2 din hon
     have wl := wrap_lo y
     have wh := wrap_hi y
     have HON := Lib.hid hon
     have sw : IntKind.i64.wrap (wrap y + dd) = wrap y + dd := IntWalk.i64_in _ (by omega)
     generalize hwp : wrap y = p1 at HON sw wl wh
     have cw := wrap_code y
     rw [hwp] at cw
     have cw2 := wrap_code (p1 + dd)
     have HP1 := Lib.hid hwp
     generalize wrap (p1 + dd) = p2 at cw2 HON
     clear hat hon hwp
     go_wp2_with fail
     refine (cw _).mono ?_
     rintro e w6 ⟨rfl, rfl⟩
     go_wp2_with fail
     refine cd2.mono ?_
     rintro e w6 ⟨rfl, hr6, hm6⟩
     have AT6 := AT2.move hr6 hm6
     have e4 := part_cells (o := 5) AT6.cel rfl
     have f4 := part_free (o := 5) AT6.cel
     have AT7 := AT6.set 5 (.int .i64 p2) (c' := { celZ with stuff := n, skip := false, kind := 0, step := 0, mx := mx, my := p2 }) (sl' := nilS) rfl
     have N7 := Lib.hid AT7
     clear AT7 AT6 hr6 hm6 cd2 AT2
     go_wp2_with fail
     refine (cw2 _).mono ?_
     rintro e w8 ⟨rfl, rfl⟩
     go_wp2
     go_roundw
     case rel => exact ⟨2, by omega, by go_num, Lib.hid (by rw [show vecN (showL s.data.toList) x y s2 2 = (mx, p2, s6) from HV2.out.trans (congrArg (fun q => (mx, q.1, q.2)) HON.out)]; exact N7.out)⟩
     case measure => simp [intOf]
    ·have AT2 : CwAt w wr pb rb A (A + 1) C s x y Y (oneS (showL s.data.toList) y s4).2 { celZ with stuff := n, skip := false, kind := 0, step := 0, mx := mx, my := (oneS (showL s.data.toList) y s4).1 } nilS := by have h := hat.out; rw [HV2.out] at h; exact h
     have hvec := vec_two (S := (showL s.data.toList)) (k := 0) (x := x) (y := y) (st := s2) rfl
     rw [HV2.out] at hvec
     generalize oneS (showL s.data.toList) y s4 = z at AT2 hvec
     obtain ⟨my, s5⟩ := z
     simp only at AT2 hvec
     have HVEC := Lib.hid hvec
     clear hvec hat HV0 HV1 HV2 HMX
     rw [show (Value.int .i64 ((2 : Nat) : Int)) = .int .i64 2 from rfl]
     go_wp2
     generalize wr = wo at *
     have hall := cel_all (inter := inter) (x := x) (y := y) HBEG.out HPT.out HSTP.out HVEC.out
     rw [show ((b : Int)).toNat = b from rfl, show ((a : Int)).toNat = a from rfl, HCD.out] at hall
     obtain ⟨D, hD⟩ : ∃ D : Cel, { stuff := n, skip := false, kind := 0, step := 0, mx := mx, my := my, dc := fun i => (blkS (intraK 0) (codB cd i) (showL s.data.toList) (stB (intraK 0) cd (showL s.data.toList) s5 i)).1, ev := fun i => (blkS (intraK 0) (codB cd i) (showL s.data.toList) (stB (intraK 0) cd (showL s.data.toList) s5 i)).2.1 } = D := ⟨_, rfl⟩
     rw [hD] at hall
     have hDc : ∀ i, D.dc i = (blkS false (codB cd i) (showL s.data.toList) (stB false cd (showL s.data.toList) s5 i)).1 := fun i => by rw [← hD]; rfl
     have hDe : ∀ i, D.ev i = (blkS false (codB cd i) (showL s.data.toList) (stB false cd (showL s.data.toList) s5 i)).2.1 := fun i => by rw [← hD]; rfl
     have ATD : CwAt w wo pb rb A (A + 1) C s x y Y (stB false cd (showL s.data.toList) s5 0) (cutC D 0) nilS := CwAt.same AT2 (by rw [← hD]; rfl)
     have HALL := Lib.hid hall
     have HDC := Lib.hid hDc
     have HDE := Lib.hid hDe
     have HATD := Lib.hid ATD
     clear hall hD hDc hDe ATD AT2
     go_loopw [64] (fun z wr => ∃ i : Nat, i ≤ 6 ∧ z = .int .i64 i ∧ ∃ sl, Hid (CwAt w wr pb rb A (A + 1) C s x y Y (stB false cd (showL s.data.toList) s5 i) (cutC D i) sl ∧ (∀ j, j < i → SlAt wr (C + 1) (sl j) (D.ev j)) ∧ ∀ j, i ≤ j → sl j = .slice none 0 0)) (fun z _ => 6 - (intOf z).toNat)
     case atStart => exact ⟨0, by omega, rfl, nilS, Lib.hid ⟨HATD.out, fun j h => absurd h (Nat.not_lt_zero j), fun _ _ => rfl⟩⟩
     case round =>
      clear HATD
      obtain ⟨i, hi6, rfl, sl, hat⟩ := hrel
      by_cases hlt : i < 6
      ·have t0 : decide ((i : Int) < 6) = true := by simp; omega
       have cb := cblock_code false (codB cd i) (HT.out _ hat.out.1.mv) hat.out.1.rd
       unfold CblkGives at cb
       have hst : (blkS false (codB cd i) (showL s.data.toList) (stB false cd (showL s.data.toList) s5 i)).2.2 = stB false cd (showL s.data.toList) s5 (i + 1) := rfl
       have hdv := HDC.out i
       have hev := HDE.out i
       generalize blkS false (codB cd i) (showL s.data.toList) (stB false cd (showL s.data.toList) s5 i) = z at cb hst hdv hev
       obtain ⟨dv, L, s5⟩ := z
       simp only at cb hst hdv hev
       subst hst
       have HDV := Lib.hid hdv
       have HEV := Lib.hid hev
       have q1 : IntKind.i64.wrap (5 - (i : Int)) = ((5 - i : Nat) : Int) := (IntWalk.i64_in _ (by omega)).trans (by omega)
       have q2 := bits_one cd (5 - i)
       have q3 : decide (((5 - i : Nat) : Int) < 0) = false := by simp
       clear hdv hev
       go_wp2_with fail
       refine cb.mono ?_
       rintro e w6 ⟨v, rfl, hsl, hr6, hm6⟩
       have AT6 := hat.out.1.move hr6 hm6
       have hlt6 := AT6.lt
       have hsz := hat.out.1.lt
       obtain ⟨q, cap, rfl, hevs, hfr⟩ := hsl
       have e6 := part_cells (o := 6 + i) AT6.cel (celL_dc _ _ i hlt)
       have f6 := part_free (o := 6 + i) AT6.cel
       have AT7 := AT6.set (6 + i) (.int .i64 dv) (celL_set_dc _ _ dv i hlt)
       rw [← HDV.out, cutC_more] at AT7
       rw [HDV.out] at AT7
       have e7 := part_cells (o := 12 + i) AT7.cel (celL_ev _ _ i hlt)
       have f7 := part_free (o := 12 + i) AT7.cel
       have AT8 := AT7.set (12 + i) (.slice q L.length cap) (celL_set_ev _ _ _ i hlt)
       have hm8 : Moved C C w6 ((w6.setCell ⟨C, 6 + i, none⟩ (.int .i64 dv)).setCell ⟨C, 12 + i, none⟩ (.slice q L.length cap)) := (Moved.set (a := C) (b := C) (p := ⟨C, 6 + i, none⟩) _ (.inl rfl)).trans (Moved.set (a := C) (b := C) (p := ⟨C, 12 + i, none⟩) _ (.inl rfl))
       have SL8 : ∀ j, j < i + 1 → SlAt ((w6.setCell ⟨C, 6 + i, none⟩ (.int .i64 dv)).setCell ⟨C, 12 + i, none⟩ (.slice q L.length cap)) (C + 1) (setV sl i (.slice q L.length cap) j) (D.ev j) := by
        intro j hj
        unfold setV
        by_cases e : j = i
        ·rw [if_pos e, e, HEV.out]
         exact (show SlAt w6 (C + 1) _ _ from ⟨q, cap, rfl, hevs, hfr.mono (by omega)⟩).moved hm8 (by omega) (by omega)
        ·rw [if_neg e]
         exact ((hat.out.2.1 j (by omega)).moved hm6 (by omega) (by omega)).moved hm8 (by omega) (by omega)
       have NL8 : ∀ j, i + 1 ≤ j → setV sl i (.slice q L.length cap) j = .slice none 0 0 := fun j hj => (if_neg (by omega)).trans (hat.out.2.2 j (by omega))
       have N8 := Lib.hid (And.intro AT8 (And.intro SL8 NL8))
       obtain ⟨m, hm⟩ : ∃ m, L.length = m := ⟨_, rfl⟩
       rw [hat.out.2.2 i (Nat.le_refl i)] at e7
       rw [hm] at N8 ⊢
       clear cb hat hr6 hm6 AT6 AT7 AT8 hm8 SL8 NL8 hevs hfr hm
       go_wp2
       go_roundw
       case rel => exact ⟨i + 1, by omega, by go_num, _, N8⟩
       case measure => simp [intOf]; omega
      ·obtain rfl : i = 6 := by omega
       have t0 : decide ((6 : Int) < 6) = false := by simp
       have hc6 := hat.out.1.cel
       rw [cutC_all] at hc6
       have hl6 := hat.out.1.lt
       have hr6 := hat.out.1.res
       have one6 := cel_one D sl fun j hj => (hat.out.2.1 j hj).one
       have siz6 := cel_size D sl
       have syz6 : Y.size = (celL D sl).toArray.size := by rw [← HY.out]; rfl
       obtain ⟨V, hV⟩ : ∃ V, (celL D sl).toArray = V := ⟨_, rfl⟩
       rw [hV] at hc6 one6 siz6 syz6
       have HV := Lib.hid hV
       clear hV
       go_wp2_with (first | (with_reducible refine wpList_load_row rfl 27 _ rfl C rfl 27 V (0, 0) _ hc6 Tryz.underlying27 rfl siz6 ?_) | (with_reducible refine wp_store_arr rfl 27 _ _ rfl (A + 1) V Y rfl rfl 27 hr6 siz6 syz6 one6 ?_; intro w5 hh5 hg5))
       have hb5 := below_set hg5 (by omega)
       refine bodyPost_ret (results_cell_row rfl _ _ (A + 1) 27 _ (0, 0) _ rfl hh5 Tryz.underlying27 rfl siz6) rfl ?_
       exact ⟨D, _, sl, HALL.out, by rw [HV.out], fun j hj => ((hat.out.2.1 j hj).moved (Moved.grown hg5 (.inl rfl) : Moved (A + 1) (A + 1) _ _) (by omega) (by omega)).from (by omega), hat.out.1.rd.under hb5 (by omega), hat.out.1.mv.onto hb5 (by omega)⟩
  ·subst hk
   have pin := pat_in false (showL s.data.toList) st1
   have cp := cpat_code false (HT.out _ HAT.out.mv) HAT.out.rd
   unfold NumGives at cp
   generalize hpt : numS (ptk false) (showL s.data.toList) st1 = z at cp pin
   obtain ⟨pt, s2⟩ := z
   simp only at cp pin
   obtain ⟨b, rfl⟩ : ∃ b : Nat, pt = (b : Int) := ⟨pt.toNat, by omega⟩
   have HPT : Hid (numS (ptk (intraK 1)) (showL s.data.toList) st1 = ((b : Int), s2)) := Lib.hid hpt
   obtain ⟨cd, hcd⟩ : ∃ cd, 4 * b + a = cd := ⟨_, rfl⟩
   have hcl : cd ≤ 63 := by omega
   have hb15 : (b : Int) ≤ 15 := by omega
   have ho : bits .or .i64 ((b : Int) * 4) (a : Int) = (cd : Int) := (or_add b 4 a 2 rfl (by omega) (by omega)).trans (by rw [hcd])
   have HCD := Lib.hid hcd
   clear hcd hpt
   go_wp2_with (with_reducible refine wp_store_fresh rfl 27 _ _ rfl Z Y 27 rfl rfl HSZ HYZ HONE ?_; rw [HW2.out, HC.out])
   refine cp.mono ?_
   rintro e w3 ⟨rfl, hr3, hm3⟩
   have AT3 := HAT.out.move hr3 hm3
   have d2 : w3.cell? ⟨C, 2, none⟩ = some (.int .i64 1) := part_cells (o := 2) AT3.cel rfl
   clear cp pin hr3 hm3 HAT hcel hres c1 c2 c3 HSZ HYZ HONE
   have cs := cnum_step (HT.out _ AT3.mv) hN AT3.rd
   unfold NumGives at cs
   generalize hsp : numS stk (showL s.data.toList) s2 = z at cs
   obtain ⟨sp, s3⟩ := z
   simp only at cs
   have HSTP : Hid (stpS (showL s.data.toList) 1 s2 = (sp, s3)) := Lib.hid hsp
   clear hsp
   go_wp2_with fail
   refine cs.mono ?_
   rintro e w4 ⟨rfl, hr4, hm4⟩
   have AT4 := AT3.move hr4 hm4
   have e3 := part_cells (o := 3) AT4.cel rfl
   have f3 := part_free (o := 3) AT4.cel
   have AT5 := AT4.set 3 (.int .i64 sp) (c' := { celZ with stuff := n, skip := false, kind := 1, step := sp, mx := 0, my := 0 }) (sl' := nilS) rfl
   obtain ⟨w5, hw5⟩ : ∃ z, w4.setCell ⟨C, 3, none⟩ (.int .i64 sp) = z := ⟨_, rfl⟩
   rw [hw5] at AT5
   have HW5 := Lib.hid hw5
   clear cs hr4 hm4 AT3 AT4 hw5 d2
   go_wp2
   rw [HW5.out]
   obtain ⟨mx, s4, hmx⟩ : ∃ mx s4, oneS (showL s.data.toList) x s3 = (mx, s4) := ⟨_, _, rfl⟩
   have HMX := Lib.hid hmx
   have HV0 : Hid (vecN (showL s.data.toList) x y s3 0 = (0, 0, s3)) := Lib.hid rfl
   have HV1 : Hid (vecN (showL s.data.toList) x y s3 1 = (mx, 0, s4)) := Lib.hid (congrArg (fun q => (q.1, (0 : Int), q.2)) hmx)
   have HV2 : Hid (vecN (showL s.data.toList) x y s3 2 = (mx, (oneS (showL s.data.toList) y s4).1, (oneS (showL s.data.toList) y s4).2)) := Lib.hid (by show ((oneS (showL s.data.toList) x s3).1, (oneS (showL s.data.toList) y (oneS (showL s.data.toList) x s3).2).1, (oneS (showL s.data.toList) y (oneS (showL s.data.toList) x s3).2).2) = _; rw [hmx])
   clear hmx
   have HATV := Lib.hid AT5
   clear AT5
   go_loopw [49] (fun z wr => ∃ i : Nat, i ≤ 2 ∧ z = .int .i64 i ∧ Hid (CwAt w wr pb rb A (A + 1) C s x y Y (vecN (showL s.data.toList) x y s3 i).2.2 { celZ with stuff := n, skip := false, kind := 1, step := sp, mx := (vecN (showL s.data.toList) x y s3 i).1, my := (vecN (showL s.data.toList) x y s3 i).2.1 } nilS)) (fun z _ => 2 - (intOf z).toNat)
   case atStart => exact ⟨0, by omega, rfl, Lib.hid (by rw [HV0.out]; exact HATV.out)⟩
   case round =>
    clear HATV
    obtain ⟨i, hi2, rfl, hat⟩ := hrel
    obtain rfl | rfl | rfl : i = 0 ∨ i = 1 ∨ i = 2 := by omega
    ·have AT2 : CwAt w wr pb rb A (A + 1) C s x y Y s3 { celZ with stuff := n, skip := false, kind := 1, step := sp, mx := 0, my := 0 } nilS := by have h := hat.out; rw [HV0.out] at h; exact h
     have p0 : wr.cell? ⟨A, 0, none⟩ = some (.int .i64 x) := part_cells (cs := [.int .i64 x, .int .i64 y]) AT2.two rfl
     have cd2 := cnum_diff (HT.out _ AT2.mv) AT2.rd
     unfold NumGives at cd2
     have din := diff_in (showL s.data.toList) s3
     have hon : oneS (showL s.data.toList) x s3 = (wrap (wrap x + (numS dtk (showL s.data.toList) s3).1), (numS dtk (showL s.data.toList) s3).2) := rfl
     generalize numS dtk (showL s.data.toList) s3 = z at cd2 din hon
     obtain ⟨dd, s6⟩ := z
     simp only at cd2 din hon
     have wl := wrap_lo x
     have wh := wrap_hi x
     have HON := Lib.hid hon
     have sw : IntKind.i64.wrap (wrap x + dd) = wrap x + dd := IntWalk.i64_in _ (by omega)
     generalize hwp : wrap x = p1 at HON sw wl wh
     have cw := wrap_code x
     rw [hwp] at cw
     have cw2 := wrap_code (p1 + dd)
     have HP1 := Lib.hid hwp
     generalize wrap (p1 + dd) = p2 at cw2 HON
     clear hat hon hwp
     go_wp2_with fail
     refine (cw _).mono ?_
     rintro e w6 ⟨rfl, rfl⟩
     go_wp2_with fail
     refine cd2.mono ?_
     rintro e w6 ⟨rfl, hr6, hm6⟩
     have AT6 := AT2.move hr6 hm6
     have e4 := part_cells (o := 4) AT6.cel rfl
     have f4 := part_free (o := 4) AT6.cel
     have AT7 := AT6.set 4 (.int .i64 p2) (c' := { celZ with stuff := n, skip := false, kind := 1, step := sp, mx := p2, my := 0 }) (sl' := nilS) rfl
     have N7 := Lib.hid AT7
     clear AT7 AT6 hr6 hm6 cd2 AT2
     go_wp2_with fail
     refine (cw2 _).mono ?_
     rintro e w8 ⟨rfl, rfl⟩
     go_wp2
     go_roundw
     case rel => exact ⟨1, by omega, by go_num, Lib.hid (by rw [show vecN (showL s.data.toList) x y s3 1 = (p2, 0, s6) from by rw [HV1.out]; exact congrArg (fun q => (q.1, (0 : Int), q.2)) (HMX.out.symm.trans HON.out)]; exact N7.out)⟩
     case measure => simp [intOf]
    ·have AT2 : CwAt w wr pb rb A (A + 1) C s x y Y s4 { celZ with stuff := n, skip := false, kind := 1, step := sp, mx := mx, my := 0 } nilS := by have h := hat.out; rw [HV1.out] at h; exact h
     have p0 : wr.cell? ⟨A, 1, none⟩ = some (.int .i64 y) := part_cells (cs := [.int .i64 x, .int .i64 y]) AT2.two rfl
     have cd2 := cnum_diff (HT.out _ AT2.mv) AT2.rd
     unfold NumGives at cd2
     have din := diff_in (showL s.data.toList) s4
     have hon : oneS (showL s.data.toList) y s4 = (wrap (wrap y + (numS dtk (showL s.data.toList) s4).1), (numS dtk (showL s.data.toList) s4).2) := rfl
     generalize numS dtk (showL s.data.toList) s4 = z at cd2 din hon
     obtain ⟨dd, s6⟩ := z
     simp only at cd2 din hon
     have wl := wrap_lo y
     have wh := wrap_hi y
     have HON := Lib.hid hon
     have sw : IntKind.i64.wrap (wrap y + dd) = wrap y + dd := IntWalk.i64_in _ (by omega)
     generalize hwp : wrap y = p1 at HON sw wl wh
     have cw := wrap_code y
     rw [hwp] at cw
     have cw2 := wrap_code (p1 + dd)
     have HP1 := Lib.hid hwp
     generalize wrap (p1 + dd) = p2 at cw2 HON
     clear hat hon hwp
     go_wp2_with fail
     refine (cw _).mono ?_
     rintro e w6 ⟨rfl, rfl⟩
     go_wp2_with fail
     refine cd2.mono ?_
     rintro e w6 ⟨rfl, hr6, hm6⟩
     have AT6 := AT2.move hr6 hm6
     have e4 := part_cells (o := 5) AT6.cel rfl
     have f4 := part_free (o := 5) AT6.cel
     have AT7 := AT6.set 5 (.int .i64 p2) (c' := { celZ with stuff := n, skip := false, kind := 1, step := sp, mx := mx, my := p2 }) (sl' := nilS) rfl
     have N7 := Lib.hid AT7
     clear AT7 AT6 hr6 hm6 cd2 AT2
     go_wp2_with fail
     refine (cw2 _).mono ?_
     rintro e w8 ⟨rfl, rfl⟩
     go_wp2
     go_roundw
     case rel => exact ⟨2, by omega, by go_num, Lib.hid (by rw [show vecN (showL s.data.toList) x y s3 2 = (mx, p2, s6) from HV2.out.trans (congrArg (fun q => (mx, q.1, q.2)) HON.out)]; exact N7.out)⟩
     case measure => simp [intOf]
    ·have AT2 : CwAt w wr pb rb A (A + 1) C s x y Y (oneS (showL s.data.toList) y s4).2 { celZ with stuff := n, skip := false, kind := 1, step := sp, mx := mx, my := (oneS (showL s.data.toList) y s4).1 } nilS := by have h := hat.out; rw [HV2.out] at h; exact h
     have hvec := vec_two (S := (showL s.data.toList)) (k := 1) (x := x) (y := y) (st := s3) rfl
     rw [HV2.out] at hvec
     generalize oneS (showL s.data.toList) y s4 = z at AT2 hvec
     obtain ⟨my, s5⟩ := z
     simp only at AT2 hvec
     have HVEC := Lib.hid hvec
     clear hvec hat HV0 HV1 HV2 HMX
     rw [show (Value.int .i64 ((2 : Nat) : Int)) = .int .i64 2 from rfl]
     go_wp2
     generalize wr = wo at *
     have hall := cel_all (inter := inter) (x := x) (y := y) HBEG.out HPT.out HSTP.out HVEC.out
     rw [show ((b : Int)).toNat = b from rfl, show ((a : Int)).toNat = a from rfl, HCD.out] at hall
     obtain ⟨D, hD⟩ : ∃ D : Cel, { stuff := n, skip := false, kind := 1, step := sp, mx := mx, my := my, dc := fun i => (blkS (intraK 1) (codB cd i) (showL s.data.toList) (stB (intraK 1) cd (showL s.data.toList) s5 i)).1, ev := fun i => (blkS (intraK 1) (codB cd i) (showL s.data.toList) (stB (intraK 1) cd (showL s.data.toList) s5 i)).2.1 } = D := ⟨_, rfl⟩
     rw [hD] at hall
     have hDc : ∀ i, D.dc i = (blkS false (codB cd i) (showL s.data.toList) (stB false cd (showL s.data.toList) s5 i)).1 := fun i => by rw [← hD]; rfl
     have hDe : ∀ i, D.ev i = (blkS false (codB cd i) (showL s.data.toList) (stB false cd (showL s.data.toList) s5 i)).2.1 := fun i => by rw [← hD]; rfl
     have ATD : CwAt w wo pb rb A (A + 1) C s x y Y (stB false cd (showL s.data.toList) s5 0) (cutC D 0) nilS := CwAt.same AT2 (by rw [← hD]; rfl)
     have HALL := Lib.hid hall
     have HDC := Lib.hid hDc
     have HDE := Lib.hid hDe
     have HATD := Lib.hid ATD
     clear hall hD hDc hDe ATD AT2
     go_loopw [64] (fun z wr => ∃ i : Nat, i ≤ 6 ∧ z = .int .i64 i ∧ ∃ sl, Hid (CwAt w wr pb rb A (A + 1) C s x y Y (stB false cd (showL s.data.toList) s5 i) (cutC D i) sl ∧ (∀ j, j < i → SlAt wr (C + 1) (sl j) (D.ev j)) ∧ ∀ j, i ≤ j → sl j = .slice none 0 0)) (fun z _ => 6 - (intOf z).toNat)
     case atStart => exact ⟨0, by omega, rfl, nilS, Lib.hid ⟨HATD.out, fun j h => absurd h (Nat.not_lt_zero j), fun _ _ => rfl⟩⟩
     case round =>
      clear HATD
      obtain ⟨i, hi6, rfl, sl, hat⟩ := hrel
      by_cases hlt : i < 6
      ·have t0 : decide ((i : Int) < 6) = true := by simp; omega
       have cb := cblock_code false (codB cd i) (HT.out _ hat.out.1.mv) hat.out.1.rd
       unfold CblkGives at cb
       have hst : (blkS false (codB cd i) (showL s.data.toList) (stB false cd (showL s.data.toList) s5 i)).2.2 = stB false cd (showL s.data.toList) s5 (i + 1) := rfl
       have hdv := HDC.out i
       have hev := HDE.out i
       generalize blkS false (codB cd i) (showL s.data.toList) (stB false cd (showL s.data.toList) s5 i) = z at cb hst hdv hev
       obtain ⟨dv, L, s5⟩ := z
       simp only at cb hst hdv hev
       subst hst
       have HDV := Lib.hid hdv
       have HEV := Lib.hid hev
       have q1 : IntKind.i64.wrap (5 - (i : Int)) = ((5 - i : Nat) : Int) := (IntWalk.i64_in _ (by omega)).trans (by omega)
       have q2 := bits_one cd (5 - i)
       have q3 : decide (((5 - i : Nat) : Int) < 0) = false := by simp
       clear hdv hev
       go_wp2_with fail
       refine cb.mono ?_
       rintro e w6 ⟨v, rfl, hsl, hr6, hm6⟩
       have AT6 := hat.out.1.move hr6 hm6
       have hlt6 := AT6.lt
       have hsz := hat.out.1.lt
       obtain ⟨q, cap, rfl, hevs, hfr⟩ := hsl
       have e6 := part_cells (o := 6 + i) AT6.cel (celL_dc _ _ i hlt)
       have f6 := part_free (o := 6 + i) AT6.cel
       have AT7 := AT6.set (6 + i) (.int .i64 dv) (celL_set_dc _ _ dv i hlt)
       rw [← HDV.out, cutC_more] at AT7
       rw [HDV.out] at AT7
       have e7 := part_cells (o := 12 + i) AT7.cel (celL_ev _ _ i hlt)
       have f7 := part_free (o := 12 + i) AT7.cel
       have AT8 := AT7.set (12 + i) (.slice q L.length cap) (celL_set_ev _ _ _ i hlt)
       have hm8 : Moved C C w6 ((w6.setCell ⟨C, 6 + i, none⟩ (.int .i64 dv)).setCell ⟨C, 12 + i, none⟩ (.slice q L.length cap)) := (Moved.set (a := C) (b := C) (p := ⟨C, 6 + i, none⟩) _ (.inl rfl)).trans (Moved.set (a := C) (b := C) (p := ⟨C, 12 + i, none⟩) _ (.inl rfl))
       have SL8 : ∀ j, j < i + 1 → SlAt ((w6.setCell ⟨C, 6 + i, none⟩ (.int .i64 dv)).setCell ⟨C, 12 + i, none⟩ (.slice q L.length cap)) (C + 1) (setV sl i (.slice q L.length cap) j) (D.ev j) := by
        intro j hj
        unfold setV
        by_cases e : j = i
        ·rw [if_pos e, e, HEV.out]
         exact (show SlAt w6 (C + 1) _ _ from ⟨q, cap, rfl, hevs, hfr.mono (by omega)⟩).moved hm8 (by omega) (by omega)
        ·rw [if_neg e]
         exact ((hat.out.2.1 j (by omega)).moved hm6 (by omega) (by omega)).moved hm8 (by omega) (by omega)
       have NL8 : ∀ j, i + 1 ≤ j → setV sl i (.slice q L.length cap) j = .slice none 0 0 := fun j hj => (if_neg (by omega)).trans (hat.out.2.2 j (by omega))
       have N8 := Lib.hid (And.intro AT8 (And.intro SL8 NL8))
       obtain ⟨m, hm⟩ : ∃ m, L.length = m := ⟨_, rfl⟩
       rw [hat.out.2.2 i (Nat.le_refl i)] at e7
       rw [hm] at N8 ⊢
       clear cb hat hr6 hm6 AT6 AT7 AT8 hm8 SL8 NL8 hevs hfr hm
       go_wp2
       go_roundw
       case rel => exact ⟨i + 1, by omega, by go_num, _, N8⟩
       case measure => simp [intOf]; omega
      ·obtain rfl : i = 6 := by omega
       have t0 : decide ((6 : Int) < 6) = false := by simp
       have hc6 := hat.out.1.cel
       rw [cutC_all] at hc6
       have hl6 := hat.out.1.lt
       have hr6 := hat.out.1.res
       have one6 := cel_one D sl fun j hj => (hat.out.2.1 j hj).one
       have siz6 := cel_size D sl
       have syz6 : Y.size = (celL D sl).toArray.size := by rw [← HY.out]; rfl
       obtain ⟨V, hV⟩ : ∃ V, (celL D sl).toArray = V := ⟨_, rfl⟩
       rw [hV] at hc6 one6 siz6 syz6
       have HV := Lib.hid hV
       clear hV
       go_wp2_with (first | (with_reducible refine wpList_load_row rfl 27 _ rfl C rfl 27 V (0, 0) _ hc6 Tryz.underlying27 rfl siz6 ?_) | (with_reducible refine wp_store_arr rfl 27 _ _ rfl (A + 1) V Y rfl rfl 27 hr6 siz6 syz6 one6 ?_; intro w5 hh5 hg5))
       have hb5 := below_set hg5 (by omega)
       refine bodyPost_ret (results_cell_row rfl _ _ (A + 1) 27 _ (0, 0) _ rfl hh5 Tryz.underlying27 rfl siz6) rfl ?_
       exact ⟨D, _, sl, HALL.out, by rw [HV.out], fun j hj => ((hat.out.2.1 j hj).moved (Moved.grown hg5 (.inl rfl) : Moved (A + 1) (A + 1) _ _) (by omega) (by omega)).from (by omega), hat.out.1.rd.under hb5 (by omega), hat.out.1.mv.onto hb5 (by omega)⟩
  ·subst hk
   have pin := pat_in true (showL s.data.toList) st1
   have cp := cpat_code true (HT.out _ HAT.out.mv) HAT.out.rd
   unfold NumGives at cp
   generalize hpt : numS (ptk true) (showL s.data.toList) st1 = z at cp pin
   obtain ⟨pt, s2⟩ := z
   simp only at cp pin
   obtain ⟨b, rfl⟩ : ∃ b : Nat, pt = (b : Int) := ⟨pt.toNat, by omega⟩
   have HPT : Hid (numS (ptk (intraK 3)) (showL s.data.toList) st1 = ((b : Int), s2)) := Lib.hid hpt
   obtain ⟨cd, hcd⟩ : ∃ cd, 4 * b + a = cd := ⟨_, rfl⟩
   have hcl : cd ≤ 63 := by omega
   have hb15 : (b : Int) ≤ 15 := by omega
   have ho : bits .or .i64 ((b : Int) * 4) (a : Int) = (cd : Int) := (or_add b 4 a 2 rfl (by omega) (by omega)).trans (by rw [hcd])
   have HCD := Lib.hid hcd
   clear hcd hpt
   go_wp2_with (with_reducible refine wp_store_fresh rfl 27 _ _ rfl Z Y 27 rfl rfl HSZ HYZ HONE ?_; rw [HW2.out, HC.out])
   refine cp.mono ?_
   rintro e w3 ⟨rfl, hr3, hm3⟩
   have AT3 := HAT.out.move hr3 hm3
   have d2 : w3.cell? ⟨C, 2, none⟩ = some (.int .i64 3) := part_cells (o := 2) AT3.cel rfl
   clear cp pin hr3 hm3 HAT hcel hres c1 c2 c3 HSZ HYZ HONE
   have HSTP : Hid (stpS (showL s.data.toList) 3 s2 = (0, s2)) := Lib.hid rfl
   go_wp2
   have HVEC : Hid (vecS (showL s.data.toList) 3 x y s2 = (0, 0, s2)) := Lib.hid rfl
   have hall := cel_all (inter := inter) (x := x) (y := y) HBEG.out HPT.out HSTP.out HVEC.out
   rw [show ((b : Int)).toNat = b from rfl, show ((a : Int)).toNat = a from rfl, HCD.out] at hall
   obtain ⟨D, hD⟩ : ∃ D : Cel, { stuff := n, skip := false, kind := 3, step := 0, mx := 0, my := 0, dc := fun i => (blkS (intraK 3) (codB cd i) (showL s.data.toList) (stB (intraK 3) cd (showL s.data.toList) s2 i)).1, ev := fun i => (blkS (intraK 3) (codB cd i) (showL s.data.toList) (stB (intraK 3) cd (showL s.data.toList) s2 i)).2.1 } = D := ⟨_, rfl⟩
   rw [hD] at hall
   have hDc : ∀ i, D.dc i = (blkS true (codB cd i) (showL s.data.toList) (stB true cd (showL s.data.toList) s2 i)).1 := fun i => by rw [← hD]; rfl
   have hDe : ∀ i, D.ev i = (blkS true (codB cd i) (showL s.data.toList) (stB true cd (showL s.data.toList) s2 i)).2.1 := fun i => by rw [← hD]; rfl
   have ATD : CwAt w w3 pb rb A (A + 1) C s x y Y (stB true cd (showL s.data.toList) s2 0) (cutC D 0) nilS := CwAt.same AT3 (by rw [← hD]; rfl)
   have HALL := Lib.hid hall
   have HDC := Lib.hid hDc
   have HDE := Lib.hid hDe
   have HATD := Lib.hid ATD
   clear hall hD hDc hDe ATD AT3
   go_loopw [64] (fun z wr => ∃ i : Nat, i ≤ 6 ∧ z = .int .i64 i ∧ ∃ sl, Hid (CwAt w wr pb rb A (A + 1) C s x y Y (stB true cd (showL s.data.toList) s2 i) (cutC D i) sl ∧ (∀ j, j < i → SlAt wr (C + 1) (sl j) (D.ev j)) ∧ ∀ j, i ≤ j → sl j = .slice none 0 0)) (fun z _ => 6 - (intOf z).toNat)
   case atStart => exact ⟨0, by omega, rfl, nilS, Lib.hid ⟨HATD.out, fun j h => absurd h (Nat.not_lt_zero j), fun _ _ => rfl⟩⟩
   case round =>
    clear HATD
    obtain ⟨i, hi6, rfl, sl, hat⟩ := hrel
    by_cases hlt : i < 6
    ·have t0 : decide ((i : Int) < 6) = true := by simp; omega
     have cb := cblock_code true (codB cd i) (HT.out _ hat.out.1.mv) hat.out.1.rd
     unfold CblkGives at cb
     have hst : (blkS true (codB cd i) (showL s.data.toList) (stB true cd (showL s.data.toList) s2 i)).2.2 = stB true cd (showL s.data.toList) s2 (i + 1) := rfl
     have hdv := HDC.out i
     have hev := HDE.out i
     generalize blkS true (codB cd i) (showL s.data.toList) (stB true cd (showL s.data.toList) s2 i) = z at cb hst hdv hev
     obtain ⟨dv, L, s5⟩ := z
     simp only at cb hst hdv hev
     subst hst
     have HDV := Lib.hid hdv
     have HEV := Lib.hid hev
     have q1 : IntKind.i64.wrap (5 - (i : Int)) = ((5 - i : Nat) : Int) := (IntWalk.i64_in _ (by omega)).trans (by omega)
     have q2 := bits_one cd (5 - i)
     have q3 : decide (((5 - i : Nat) : Int) < 0) = false := by simp
     clear hdv hev
     go_wp2_with fail
     refine cb.mono ?_
     rintro e w6 ⟨v, rfl, hsl, hr6, hm6⟩
     have AT6 := hat.out.1.move hr6 hm6
     have hlt6 := AT6.lt
     have hsz := hat.out.1.lt
     obtain ⟨q, cap, rfl, hevs, hfr⟩ := hsl
     have e6 := part_cells (o := 6 + i) AT6.cel (celL_dc _ _ i hlt)
     have f6 := part_free (o := 6 + i) AT6.cel
     have AT7 := AT6.set (6 + i) (.int .i64 dv) (celL_set_dc _ _ dv i hlt)
     rw [← HDV.out, cutC_more] at AT7
     rw [HDV.out] at AT7
     have e7 := part_cells (o := 12 + i) AT7.cel (celL_ev _ _ i hlt)
     have f7 := part_free (o := 12 + i) AT7.cel
     have AT8 := AT7.set (12 + i) (.slice q L.length cap) (celL_set_ev _ _ _ i hlt)
     have hm8 : Moved C C w6 ((w6.setCell ⟨C, 6 + i, none⟩ (.int .i64 dv)).setCell ⟨C, 12 + i, none⟩ (.slice q L.length cap)) := (Moved.set (a := C) (b := C) (p := ⟨C, 6 + i, none⟩) _ (.inl rfl)).trans (Moved.set (a := C) (b := C) (p := ⟨C, 12 + i, none⟩) _ (.inl rfl))
     have SL8 : ∀ j, j < i + 1 → SlAt ((w6.setCell ⟨C, 6 + i, none⟩ (.int .i64 dv)).setCell ⟨C, 12 + i, none⟩ (.slice q L.length cap)) (C + 1) (setV sl i (.slice q L.length cap) j) (D.ev j) := by
      intro j hj
      unfold setV
      by_cases e : j = i
      ·rw [if_pos e, e, HEV.out]
       exact (show SlAt w6 (C + 1) _ _ from ⟨q, cap, rfl, hevs, hfr.mono (by omega)⟩).moved hm8 (by omega) (by omega)
      ·rw [if_neg e]
       exact ((hat.out.2.1 j (by omega)).moved hm6 (by omega) (by omega)).moved hm8 (by omega) (by omega)
     have NL8 : ∀ j, i + 1 ≤ j → setV sl i (.slice q L.length cap) j = .slice none 0 0 := fun j hj => (if_neg (by omega)).trans (hat.out.2.2 j (by omega))
     have N8 := Lib.hid (And.intro AT8 (And.intro SL8 NL8))
     obtain ⟨m, hm⟩ : ∃ m, L.length = m := ⟨_, rfl⟩
     rw [hat.out.2.2 i (Nat.le_refl i)] at e7
     rw [hm] at N8 ⊢
     clear cb hat hr6 hm6 AT6 AT7 AT8 hm8 SL8 NL8 hevs hfr hm
     go_wp2
     go_roundw
     case rel => exact ⟨i + 1, by omega, by go_num, _, N8⟩
     case measure => simp [intOf]; omega
    ·obtain rfl : i = 6 := by omega
     have t0 : decide ((6 : Int) < 6) = false := by simp
     have hc6 := hat.out.1.cel
     rw [cutC_all] at hc6
     have hl6 := hat.out.1.lt
     have hr6 := hat.out.1.res
     have one6 := cel_one D sl fun j hj => (hat.out.2.1 j hj).one
     have siz6 := cel_size D sl
     have syz6 : Y.size = (celL D sl).toArray.size := by rw [← HY.out]; rfl
     obtain ⟨V, hV⟩ : ∃ V, (celL D sl).toArray = V := ⟨_, rfl⟩
     rw [hV] at hc6 one6 siz6 syz6
     have HV := Lib.hid hV
     clear hV
     go_wp2_with (first | (with_reducible refine wpList_load_row rfl 27 _ rfl C rfl 27 V (0, 0) _ hc6 Tryz.underlying27 rfl siz6 ?_) | (with_reducible refine wp_store_arr rfl 27 _ _ rfl (A + 1) V Y rfl rfl 27 hr6 siz6 syz6 one6 ?_; intro w5 hh5 hg5))
     have hb5 := below_set hg5 (by omega)
     refine bodyPost_ret (results_cell_row rfl _ _ (A + 1) 27 _ (0, 0) _ rfl hh5 Tryz.underlying27 rfl siz6) rfl ?_
     exact ⟨D, _, sl, HALL.out, by rw [HV.out], fun j hj => ((hat.out.2.1 j hj).moved (Moved.grown hg5 (.inl rfl) : Moved (A + 1) (A + 1) _ _) (by omega) (by omega)).from (by omega), hat.out.1.rd.under hb5 (by omega), hat.out.1.mv.onto hb5 (by omega)⟩
  ·subst hk
   have pin := pat_in true (showL s.data.toList) st1
   have cp := cpat_code true (HT.out _ HAT.out.mv) HAT.out.rd
   unfold NumGives at cp
   generalize hpt : numS (ptk true) (showL s.data.toList) st1 = z at cp pin
   obtain ⟨pt, s2⟩ := z
   simp only at cp pin
   obtain ⟨b, rfl⟩ : ∃ b : Nat, pt = (b : Int) := ⟨pt.toNat, by omega⟩
   have HPT : Hid (numS (ptk (intraK 4)) (showL s.data.toList) st1 = ((b : Int), s2)) := Lib.hid hpt
   obtain ⟨cd, hcd⟩ : ∃ cd, 4 * b + a = cd := ⟨_, rfl⟩
   have hcl : cd ≤ 63 := by omega
   have hb15 : (b : Int) ≤ 15 := by omega
   have ho : bits .or .i64 ((b : Int) * 4) (a : Int) = (cd : Int) := (or_add b 4 a 2 rfl (by omega) (by omega)).trans (by rw [hcd])
   have HCD := Lib.hid hcd
   clear hcd hpt
   go_wp2_with (with_reducible refine wp_store_fresh rfl 27 _ _ rfl Z Y 27 rfl rfl HSZ HYZ HONE ?_; rw [HW2.out, HC.out])
   refine cp.mono ?_
   rintro e w3 ⟨rfl, hr3, hm3⟩
   have AT3 := HAT.out.move hr3 hm3
   have d2 : w3.cell? ⟨C, 2, none⟩ = some (.int .i64 4) := part_cells (o := 2) AT3.cel rfl
   clear cp pin hr3 hm3 HAT hcel hres c1 c2 c3 HSZ HYZ HONE
   have cs := cnum_step (HT.out _ AT3.mv) hN AT3.rd
   unfold NumGives at cs
   generalize hsp : numS stk (showL s.data.toList) s2 = z at cs
   obtain ⟨sp, s3⟩ := z
   simp only at cs
   have HSTP : Hid (stpS (showL s.data.toList) 4 s2 = (sp, s3)) := Lib.hid hsp
   clear hsp
   go_wp2_with fail
   refine cs.mono ?_
   rintro e w4 ⟨rfl, hr4, hm4⟩
   have AT4 := AT3.move hr4 hm4
   have e3 := part_cells (o := 3) AT4.cel rfl
   have f3 := part_free (o := 3) AT4.cel
   have AT5 := AT4.set 3 (.int .i64 sp) (c' := { celZ with stuff := n, skip := false, kind := 4, step := sp, mx := 0, my := 0 }) (sl' := nilS) rfl
   obtain ⟨w5, hw5⟩ : ∃ z, w4.setCell ⟨C, 3, none⟩ (.int .i64 sp) = z := ⟨_, rfl⟩
   rw [hw5] at AT5
   have HW5 := Lib.hid hw5
   clear cs hr4 hm4 AT3 AT4 hw5 d2
   go_wp2
   rw [HW5.out]
   have HVEC : Hid (vecS (showL s.data.toList) 4 x y s3 = (0, 0, s3)) := Lib.hid rfl
   have hall := cel_all (inter := inter) (x := x) (y := y) HBEG.out HPT.out HSTP.out HVEC.out
   rw [show ((b : Int)).toNat = b from rfl, show ((a : Int)).toNat = a from rfl, HCD.out] at hall
   obtain ⟨D, hD⟩ : ∃ D : Cel, { stuff := n, skip := false, kind := 4, step := sp, mx := 0, my := 0, dc := fun i => (blkS (intraK 4) (codB cd i) (showL s.data.toList) (stB (intraK 4) cd (showL s.data.toList) s3 i)).1, ev := fun i => (blkS (intraK 4) (codB cd i) (showL s.data.toList) (stB (intraK 4) cd (showL s.data.toList) s3 i)).2.1 } = D := ⟨_, rfl⟩
   rw [hD] at hall
   have hDc : ∀ i, D.dc i = (blkS true (codB cd i) (showL s.data.toList) (stB true cd (showL s.data.toList) s3 i)).1 := fun i => by rw [← hD]; rfl
   have hDe : ∀ i, D.ev i = (blkS true (codB cd i) (showL s.data.toList) (stB true cd (showL s.data.toList) s3 i)).2.1 := fun i => by rw [← hD]; rfl
   have ATD : CwAt w w5 pb rb A (A + 1) C s x y Y (stB true cd (showL s.data.toList) s3 0) (cutC D 0) nilS := CwAt.same AT5 (by rw [← hD]; rfl)
   have HALL := Lib.hid hall
   have HDC := Lib.hid hDc
   have HDE := Lib.hid hDe
   have HATD := Lib.hid ATD
   clear hall hD hDc hDe ATD AT5
   go_loopw [64] (fun z wr => ∃ i : Nat, i ≤ 6 ∧ z = .int .i64 i ∧ ∃ sl, Hid (CwAt w wr pb rb A (A + 1) C s x y Y (stB true cd (showL s.data.toList) s3 i) (cutC D i) sl ∧ (∀ j, j < i → SlAt wr (C + 1) (sl j) (D.ev j)) ∧ ∀ j, i ≤ j → sl j = .slice none 0 0)) (fun z _ => 6 - (intOf z).toNat)
   case atStart => exact ⟨0, by omega, rfl, nilS, Lib.hid ⟨HATD.out, fun j h => absurd h (Nat.not_lt_zero j), fun _ _ => rfl⟩⟩
   case round =>
    clear HATD
    obtain ⟨i, hi6, rfl, sl, hat⟩ := hrel
    by_cases hlt : i < 6
    ·have t0 : decide ((i : Int) < 6) = true := by simp; omega
     have cb := cblock_code true (codB cd i) (HT.out _ hat.out.1.mv) hat.out.1.rd
     unfold CblkGives at cb
     have hst : (blkS true (codB cd i) (showL s.data.toList) (stB true cd (showL s.data.toList) s3 i)).2.2 = stB true cd (showL s.data.toList) s3 (i + 1) := rfl
     have hdv := HDC.out i
     have hev := HDE.out i
     generalize blkS true (codB cd i) (showL s.data.toList) (stB true cd (showL s.data.toList) s3 i) = z at cb hst hdv hev
     obtain ⟨dv, L, s5⟩ := z
     simp only at cb hst hdv hev
     subst hst
     have HDV := Lib.hid hdv
     have HEV := Lib.hid hev
     have q1 : IntKind.i64.wrap (5 - (i : Int)) = ((5 - i : Nat) : Int) := (IntWalk.i64_in _ (by omega)).trans (by omega)
     have q2 := bits_one cd (5 - i)
     have q3 : decide (((5 - i : Nat) : Int) < 0) = false := by simp
     clear hdv hev
     go_wp2_with fail
     refine cb.mono ?_
     rintro e w6 ⟨v, rfl, hsl, hr6, hm6⟩
     have AT6 := hat.out.1.move hr6 hm6
     have hlt6 := AT6.lt
     have hsz := hat.out.1.lt
     obtain ⟨q, cap, rfl, hevs, hfr⟩ := hsl
     have e6 := part_cells (o := 6 + i) AT6.cel (celL_dc _ _ i hlt)
     have f6 := part_free (o := 6 + i) AT6.cel
     have AT7 := AT6.set (6 + i) (.int .i64 dv) (celL_set_dc _ _ dv i hlt)
     rw [← HDV.out, cutC_more] at AT7
     rw [HDV.out] at AT7
     have e7 := part_cells (o := 12 + i) AT7.cel (celL_ev _ _ i hlt)
     have f7 := part_free (o := 12 + i) AT7.cel
     have AT8 := AT7.set (12 + i) (.slice q L.length cap) (celL_set_ev _ _ _ i hlt)
     have hm8 : Moved C C w6 ((w6.setCell ⟨C, 6 + i, none⟩ (.int .i64 dv)).setCell ⟨C, 12 + i, none⟩ (.slice q L.length cap)) := (Moved.set (a := C) (b := C) (p := ⟨C, 6 + i, none⟩) _ (.inl rfl)).trans (Moved.set (a := C) (b := C) (p := ⟨C, 12 + i, none⟩) _ (.inl rfl))
     have SL8 : ∀ j, j < i + 1 → SlAt ((w6.setCell ⟨C, 6 + i, none⟩ (.int .i64 dv)).setCell ⟨C, 12 + i, none⟩ (.slice q L.length cap)) (C + 1) (setV sl i (.slice q L.length cap) j) (D.ev j) := by
      intro j hj
      unfold setV
      by_cases e : j = i
      ·rw [if_pos e, e, HEV.out]
       exact (show SlAt w6 (C + 1) _ _ from ⟨q, cap, rfl, hevs, hfr.mono (by omega)⟩).moved hm8 (by omega) (by omega)
      ·rw [if_neg e]
       exact ((hat.out.2.1 j (by omega)).moved hm6 (by omega) (by omega)).moved hm8 (by omega) (by omega)
     have NL8 : ∀ j, i + 1 ≤ j → setV sl i (.slice q L.length cap) j = .slice none 0 0 := fun j hj => (if_neg (by omega)).trans (hat.out.2.2 j (by omega))
     have N8 := Lib.hid (And.intro AT8 (And.intro SL8 NL8))
     obtain ⟨m, hm⟩ : ∃ m, L.length = m := ⟨_, rfl⟩
     rw [hat.out.2.2 i (Nat.le_refl i)] at e7
     rw [hm] at N8 ⊢
     clear cb hat hr6 hm6 AT6 AT7 AT8 hm8 SL8 NL8 hevs hfr hm
     go_wp2
     go_roundw
     case rel => exact ⟨i + 1, by omega, by go_num, _, N8⟩
     case measure => simp [intOf]; omega
    ·obtain rfl : i = 6 := by omega
     have t0 : decide ((6 : Int) < 6) = false := by simp
     have hc6 := hat.out.1.cel
     rw [cutC_all] at hc6
     have hl6 := hat.out.1.lt
     have hr6 := hat.out.1.res
     have one6 := cel_one D sl fun j hj => (hat.out.2.1 j hj).one
     have siz6 := cel_size D sl
     have syz6 : Y.size = (celL D sl).toArray.size := by rw [← HY.out]; rfl
     obtain ⟨V, hV⟩ : ∃ V, (celL D sl).toArray = V := ⟨_, rfl⟩
     rw [hV] at hc6 one6 siz6 syz6
     have HV := Lib.hid hV
     clear hV
     go_wp2_with (first | (with_reducible refine wpList_load_row rfl 27 _ rfl C rfl 27 V (0, 0) _ hc6 Tryz.underlying27 rfl siz6 ?_) | (with_reducible refine wp_store_arr rfl 27 _ _ rfl (A + 1) V Y rfl rfl 27 hr6 siz6 syz6 one6 ?_; intro w5 hh5 hg5))
     have hb5 := below_set hg5 (by omega)
     refine bodyPost_ret (results_cell_row rfl _ _ (A + 1) 27 _ (0, 0) _ rfl hh5 Tryz.underlying27 rfl siz6) rfl ?_
     exact ⟨D, _, sl, HALL.out, by rw [HV.out], fun j hj => ((hat.out.2.1 j hj).moved (Moved.grown hg5 (.inl rfl) : Moved (A + 1) (A + 1) _ _) (by omega) (by omega)).from (by omega), hat.out.1.rd.under hb5 (by omega), hat.out.1.mv.onto hb5 (by omega)⟩
end Go.Proofs.YtekjgcchnmnplaaGreatDoor

namespace Go.Proofs.YtekjgcchnmnplaaGreatDoor
def Seg (S : List UInt8) (p q : Nat) (r : List UInt8) : Prop := p ≤ q ∧ q ≤ S.length ∧ (S.drop p).take (q - p) = r
end Go.Proofs.YtekjgcchnmnplaaGreatDoor

namespace Go.Proofs.YtekjgcchnmnplaaGreatDoor
theorem Seg.at {S : List UInt8} {p q : Nat} {r : List UInt8} (h : Seg S p q r) : S.drop p = r ++ S.drop q := by
 obtain ⟨h1, h2, h3⟩ := h
 rw [← h3, show S.drop q = (S.drop p).drop (q - p) by rw [List.drop_drop, show p + (q - p) = q by omega], List.take_append_drop]
theorem Seg.len {S : List UInt8} {p q : Nat} {r : List UInt8} (h : Seg S p q r) : q = p + r.length := by
 obtain ⟨h1, h2, h3⟩ := h
 have := congrArg List.length h3
 rw [List.length_take, List.length_drop] at this
 omega
theorem Seg.split {S : List UInt8} {p q : Nat} {r s : List UInt8} (h : Seg S p q (r ++ s)) : Seg S p (p + r.length) r ∧ Seg S (p + r.length) q s := by
 have hl := h.len
 rw [List.length_append] at hl
 obtain ⟨h1, h2, h3⟩ := h
 refine ⟨⟨by omega, by omega, ?_⟩, ⟨by omega, h2, ?_⟩⟩
 ·have h4 := congrArg (List.take r.length) h3
  rw [List.take_take, List.take_left, show min r.length (q - p) = r.length by omega] at h4
  rw [Nat.add_sub_cancel_left, h4]
 ·have h4 := congrArg (List.drop r.length) h3
  rw [List.drop_take, List.drop_drop, List.drop_left] at h4
  rw [show q - (p + r.length) = q - p - r.length by omega, h4]
theorem Seg.cut {S : List UInt8} {p q : Nat} {r s : List UInt8} (h : Seg S p q (r ++ s)) : ∃ m, Seg S p m r ∧ Seg S m q s := ⟨_, h.split.1, h.split.2⟩
theorem Seg.all (A r C : List UInt8) : Seg (A ++ r ++ C) A.length (A.length + r.length) r := by
 refine ⟨by omega, by simp only [List.length_append]; omega, ?_⟩
 rw [List.append_assoc, List.drop_left, Nat.add_sub_cancel_left, List.take_left]
theorem kin_there {inter : Bool} {S : List UInt8} {p q : Nat} {a c : Int} (h : Seg S p q (rowAt inter a c).data.toList) (hne : (rowAt inter a c).data.toList.isEmpty = false) (h2 : a ≠ 2) : kinS inter S (p, 0) = (a, c, q, 0) := by
 have hl := h.len
 rw [kinS_ok, h.at, mtk_head inter a c _ rfl hne, if_neg h2]
 simp only [Prod.mk.injEq, and_true, true_and]
 exact hl.symm
theorem bit_there {S : List UInt8} {p q : Nat} {d : UInt8} (h : Seg S p q [d]) : numS bitk S (p, 0) = (if d = 49 then 1 else 0, q, 0) := by
 have hl := h.len
 rw [numS_ok, h.at]
 simp only [List.cons_append, bitk, Prod.mk.injEq, and_true, true_and]
 exact hl.symm
theorem any_there {inter : Bool} {S : List UInt8} {j m p q : Nat} {a c : Int} (h : Seg S p q (begL inter ++ (rowAt inter a c).data.toList)) (hne : (rowAt inter a c).data.toList.isEmpty = false) (h2 : a ≠ 2) :
  begS inter S (j + 1) m (p, 0) = if a = 5 then begS inter S j (m + 1) (q, 0) else (m, false, a, c, q, 0) := by
 cases inter with
 | false => exact begS_none (kin_there h hne h2)
 | true =>
  obtain ⟨g1, g2⟩ := h.split
  exact begS_bit (bit_there g1) (by decide) (kin_there g2 hne h2)
theorem five_some (inter : Bool) : (rowAt inter 5 0).data.toList.isEmpty = false := by cases inter <;> rfl
theorem beg_skip {S : List UInt8} : ∀ (n j m p q : Nat), n < j → Seg S p q (stuffN true n ++ [49]) → begS true S j m (p, 0) = (m + n, true, 0, 0, q, 0)
 | 0, j, m, p, q, hj, h => by
  obtain ⟨k, rfl⟩ : ∃ k, j = k + 1 := ⟨j - 1, by omega⟩
  exact begS_skip rfl (bit_there (show Seg S p q [49] from h)) (by decide)
 | n + 1, j, m, p, q, hj, h => by
  obtain ⟨k, rfl⟩ : ∃ k, j = k + 1 := ⟨j - 1, by omega⟩
  rw [stuffN_more, List.append_assoc] at h
  obtain ⟨g1, g2⟩ := h.split
  rw [any_there g1 (five_some true) (by decide), if_pos rfl, beg_skip n k (m + 1) _ q (by omega) g2, Nat.add_assoc, Nat.add_comm 1 n]
theorem beg_kind {inter : Bool} {S : List UInt8} {a c : Int} (hne : (rowAt inter a c).data.toList.isEmpty = false) (h2 : a ≠ 2) (h5 : a ≠ 5) : ∀ (n j m p q : Nat), n < j → Seg S p q (stuffN inter n ++ (begL inter ++ (rowAt inter a c).data.toList)) → begS inter S j m (p, 0) = (m + n, false, a, c, q, 0)
 | 0, j, m, p, q, hj, h => by
  obtain ⟨k, rfl⟩ : ∃ k, j = k + 1 := ⟨j - 1, by omega⟩
  rw [any_there (show Seg S p q (begL inter ++ (rowAt inter a c).data.toList) from h) hne h2, if_neg h5]
  rfl
 | n + 1, j, m, p, q, hj, h => by
  obtain ⟨k, rfl⟩ : ∃ k, j = k + 1 := ⟨j - 1, by omega⟩
  rw [stuffN_more, List.append_assoc] at h
  obtain ⟨g1, g2⟩ := h.split
  rw [any_there g1 (five_some inter) (by decide), if_pos rfl, beg_kind hne h2 h5 n k (m + 1) _ q (by omega) g2, Nat.add_assoc, Nat.add_comm 1 n]
theorem kind_some {inter : Bool} {k : Int} {c : Nat} (h : kinOk inter k = true) (hc : c < 4) : (rowAt inter k (c : Nat)).data.toList.isEmpty = false ∧ k ≠ 2 ∧ k ≠ 5 := by
 have hk : k = 3 ∨ k = 4 ∨ (inter = true ∧ (k = 0 ∨ k = 1)) := by
  unfold kinOk at h
  simpa [or_assoc] using h
 rcases hk with rfl | rfl | ⟨rfl, rfl | rfl⟩
 all_goals
  refine ⟨?_, by decide, by decide⟩
  match c, hc with
  | 0, _ => first | rfl | (cases inter <;> rfl)
  | 1, _ => first | rfl | (cases inter <;> rfl)
  | 2, _ => first | rfl | (cases inter <;> rfl)
  | 3, _ => first | rfl | (cases inter <;> rfl)
theorem pat_there {S : List UInt8} {p q : Nat} {i : Bool} {k : Nat} (h : Seg S p q (patAt i (k : Nat)).data.toList) (hk : k < 16) : numS (ptk i) S (p, 0) = (((k : Nat) : Int), (q, 0)) := by
 have hl := h.len
 rw [numS_ok, h.at, ptk_head i k hk _ rfl]
 simp only [Prod.mk.injEq, and_true, true_and]
 exact hl.symm
theorem stp_there {S : List UInt8} {p q : Nat} {k s : Int} (h : Seg S p q (stepRow s).data.toList) (hs : stpOk k s = true) : stpS S k (p, 0) = (s, q, 0) := by
 have hl := h.len
 unfold stpS
 unfold stpOk at hs
 cases hk : stepK k with
 | true =>
  rw [hk, if_pos rfl, Bool.not_eq_true'] at hs
  have h4 := stepRow_some.1 hs
  rw [if_pos rfl, numS_ok, h.at, stk_head h4]
  simp only [Prod.mk.injEq, and_true, true_and]
  have : (stepRow s).data.toList.length = 2 := by rcases h4 with rfl | rfl | rfl | rfl <;> rfl
  omega
 | false =>
  rw [hk, if_neg (by decide), beq_iff_eq] at hs
  subst hs
  rw [if_neg (by decide)]
  simp only [Prod.mk.injEq, and_true, true_and]
  exact hl.symm
theorem one_there {S : List UInt8} {p q : Nat} {pr v : Int} (h : Seg S p q (diffAt (wrap (v - wrap pr))).data.toList) (hv : v = wrap v) : oneS S pr (p, 0) = (v, q, 0) := by
 have hl := h.len
 unfold oneS
 rw [numS_ok, h.at, dtk_head (wrap_in _) _ rfl]
 have e : wrap (wrap pr + wrap (v - wrap pr)) = v := by unfold wrap at hv ⊢; omega
 rw [e]
 simp only [Prod.mk.injEq, and_true, true_and]
 exact hl.symm
theorem vec_there {S : List UInt8} {p q : Nat} {k x y mx my : Int} (h : Seg S p q (vecR k x y mx my)) (hv : vecOk k mx my = true) : vecS S k x y (p, 0) = (mx, my, q, 0) := by
 unfold vecR at h
 unfold vecOk at hv
 unfold vecS
 cases hk : intraK k with
 | true =>
  rw [hk, if_pos rfl] at h hv
  rw [Bool.and_eq_true, beq_iff_eq, beq_iff_eq] at hv
  obtain ⟨rfl, rfl⟩ := hv
  rw [if_pos rfl]
  simp only [Prod.mk.injEq, and_true, true_and]
  exact h.len.symm
 | false =>
  rw [hk, if_neg (by decide)] at h hv
  rw [Bool.and_eq_true, beq_iff_eq, beq_iff_eq] at hv
  obtain ⟨g1, g2⟩ := h.split
  have h1 := one_there g1 hv.1
  have h2 := one_there g2 hv.2
  rw [if_neg (by decide), h1]
  simp only
  rw [h2]
theorem blk_there {S : List UInt8} {p q : Nat} {i : Bool} {d : Int} {l : List Ev} (h : Seg S p q (rowB i d l)) (hm : mayB i d l = true) : blkS i (decide (0 < l.length)) S (p, 0) = (d, l, q, 0) := by
 have hl := h.len
 have h1 := h.at
 obtain ⟨e1, e2, _⟩ := h
 have hS : S = S.take p ++ rowB i d l ++ S.drop q := by rw [List.append_assoc, ← h1, List.take_append_drop]
 have hA : (S.take p).length = p := by rw [List.length_take]; omega
 have hb := back_btk hm (S.take p) (S.drop q)
 rw [← hS, hA, ← hl] at hb
 rw [blkS_ok, hb]
theorem blkN_cut {S : List UInt8} {a : Nat} {c : Cel} {i : Nat} : ∀ (k b : Nat), Seg S a b (blkN c (i + k)) → Seg S a (a + (blkN c i).length) (blkN c i)
 | 0, b, h => by
  have hl := h.len
  rw [Nat.add_zero] at hl h
  rw [← hl]
  exact h
 | k + 1, b, h => by
  have h' : Seg S a b (blkN c (i + k) ++ rowB (intraK c.kind) (c.dc (i + k)) (c.ev (i + k))) := h
  exact blkN_cut k _ h'.split.1
theorem codB_has {c : Cel} : ∀ i, i < 6 → codB (4 * codN c 4 + chrN c) i = decide (0 < (c.ev i).length) := by
 have hb : ∀ i, (hasE c i == 1) = decide (0 < (c.ev i).length) := by
  intro i
  unfold hasE
  cases decide (0 < (c.ev i).length) <;> rfl
 have h := fun i => hasE_lt c i
 have h0 := h 0; have h1 := h 1; have h2 := h 2; have h3 := h 3; have h4 := h 4; have h5 := h 5
 intro i hi
 rw [← hb]
 unfold codB
 congr 1
 rw [cod_four]
 unfold chrN
 match i, hi with
 | 0, _ => simp only [Nat.sub_zero, Nat.reducePow]; omega
 | 1, _ => simp only [Nat.reduceSub, Nat.reducePow]; omega
 | 2, _ => simp only [Nat.reduceSub, Nat.reducePow]; omega
 | 3, _ => simp only [Nat.reduceSub, Nat.reducePow]; omega
 | 4, _ => simp only [Nat.reduceSub, Nat.reducePow]; omega
 | 5, _ => simp only [Nat.reduceSub, Nat.reducePow]; omega
theorem celB_of {c d : Cel} (he : ∀ i, i < 6 → c.ev i = d.ev i) (hd : ∀ i, i < 6 → c.dc i = d.dc i) (h1 : c.stuff = d.stuff) (h2 : c.skip = d.skip) (h3 : c.kind = d.kind) (h4 : c.step = d.step) (h5 : c.mx = d.mx) (h6 : c.my = d.my) : celB c d = true := by
 unfold celB
 rw [evB_all he, Bool.true_and]
 unfold numB
 rw [h1, h2, h3, h4, h5, h6]
 simp only [beq_self_eq_true, Bool.and_self, Bool.true_and, List.all_eq_true]
 intro i hi
 rw [hd i (List.mem_range.1 hi)]
 exact beq_self_eq_true _
theorem ctk_there {inter : Bool} {S : List UInt8} {x y : Int} {p q : Nat} {c : Cel} (h : Seg S p q (celRow inter x y c)) (hm : celMay inter c = true) : ∃ c', ctk inter S x y p = (c', q, 0) ∧ celB c' c = true := by
 unfold celMay at hm
 rw [Bool.and_eq_true, Bool.and_eq_true, decide_eq_true_iff, decide_eq_true_iff] at hm
 obtain ⟨⟨s0, s1⟩, hm⟩ := hm
 obtain ⟨n, hn⟩ : ∃ n : Nat, c.stuff = n := ⟨c.stuff.toNat, by omega⟩
 unfold celRow at h
 rw [hn, Int.toNat_natCast] at h
 cases hsk : c.skip with
 | true =>
  rw [hsk, if_pos rfl] at hm h
  rw [Bool.and_eq_true] at hm
  obtain ⟨hi, hz⟩ := hm
  subst hi
  have hb := beg_skip n 65 0 p q (by omega) h
  refine ⟨_, cel_right (cel_skip hb), ?_⟩
  unfold zeroC at hz
  simp only [Bool.and_eq_true, beq_iff_eq, List.all_eq_true, List.mem_range, decide_eq_true_eq] at hz
  obtain ⟨⟨⟨k0, k1⟩, k2, k3⟩, hd, he⟩ := hz
  exact celB_of (fun i hi => (List.eq_nil_of_length_eq_zero (he i hi)).symm) (fun i hi => (hd i hi).symm) (by rw [hn]; simp) hsk.symm k0.symm k1.symm k2.symm k3.symm
 | false =>
  rw [hsk, if_neg (by decide)] at hm h
  simp only [Bool.and_eq_true] at hm
  obtain ⟨⟨hk, hs⟩, hv, hbk⟩ := hm
  rw [← List.append_assoc, ← List.append_assoc, ← List.append_assoc, ← List.append_assoc] at h
  obtain ⟨q4, h, g5⟩ := h.cut
  obtain ⟨q3, h, g4⟩ := h.cut
  obtain ⟨q2, h, g3⟩ := h.cut
  obtain ⟨q1, g1, g2⟩ := h.cut
  obtain ⟨c1, c2, c3⟩ := cod_lt c
  obtain ⟨r1, r2, r3⟩ := kind_some hk c2
  have hb := beg_kind r1 r2 r3 n 65 0 p q1 (by omega) g1
  rw [Nat.zero_add] at hb
  have hall := cel_all hb (pat_there g2 c1) (stp_there g3 hs) (vec_there g4 hv)
  rw [Int.toNat_natCast, Int.toNat_natCast] at hall
  have hseg : ∀ i, i < 6 → Seg S (q4 + (blkN c i).length) (q4 + (blkN c (i + 1)).length) (rowB (intraK c.kind) (c.dc i) (c.ev i)) := by
   intro i hi
   have g6 : Seg S q4 q (blkN c (i + 1 + (5 - i))) := by rw [show i + 1 + (5 - i) = 6 by omega]; exact g5
   have g7 : Seg S q4 (q4 + (blkN c (i + 1)).length) (blkN c i ++ rowB (intraK c.kind) (c.dc i) (c.ev i)) := blkN_cut (5 - i) q g6
   exact g7.split.2
  have hmy := blkOk_iff.1 hbk
  have hst : ∀ i, i ≤ 6 → stB (intraK c.kind) (4 * codN c 4 + chrN c) S (q4, 0) i = (q4 + (blkN c i).length, 0) := by
   intro i
   induction i with
   | zero => intro _; rfl
   | succ i ih =>
    intro hi
    show (blkS (intraK c.kind) (codB (4 * codN c 4 + chrN c) i) S (stB (intraK c.kind) (4 * codN c 4 + chrN c) S (q4, 0) i)).2.2 = _
    rw [ih (by omega), codB_has i (by omega), blk_there (hseg i (by omega)) (hmy i (by omega))]
  have hbl : ∀ i, i < 6 → blkS (intraK c.kind) (codB (4 * codN c 4 + chrN c) i) S (stB (intraK c.kind) (4 * codN c 4 + chrN c) S (q4, 0) i) = (c.dc i, c.ev i, q4 + (blkN c (i + 1)).length, 0) := by
   intro i hi
   rw [hst i (by omega), codB_has i hi, blk_there (hseg i hi) (hmy i hi)]
  rw [hst 6 (Nat.le_refl _), ← g5.len] at hall
  refine ⟨_, cel_right hall, ?_⟩
  refine celB_of (fun i hi => ?_) (fun i hi => ?_) hn.symm hsk.symm rfl rfl rfl rfl
  ·show (blkS (intraK c.kind) (codB (4 * codN c 4 + chrN c) i) S (stB (intraK c.kind) (4 * codN c 4 + chrN c) S (q4, 0) i)).2.1 = _
   rw [hbl i hi]
  ·show (blkS (intraK c.kind) (codB (4 * codN c 4 + chrN c) i) S (stB (intraK c.kind) (4 * codN c 4 + chrN c) S (q4, 0) i)).1 = _
   rw [hbl i hi]
end Go.Proofs.YtekjgcchnmnplaaGreatDoor
