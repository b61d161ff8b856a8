/- Texts that SoundSame's proof stands on, part 27 of 48. No condition of its own. -/
import Derived.Test.YthmmpjecmapajaaDoorSoundSameMc
import Derived.Test.YthmmpjecmapajaaDoorSoundSameMd
import Derived.Test.YthmmpjecmapajaaDoorSoundSameMg
import Derived.Test.YthmmpjecmapajaaDoorSoundSameMz
import Derived.WalkKit
import Derived.OwnWalk
import Derived.BigQuiet
import Derived.Deep.QuietTactic
import Derived.IntWalk
namespace Go.Proofs.YthmmpjecmapajaaDoor
open Go.ChangeShapes Go.WideShapes Go.ChangeAt Go.RowKit
def rowC (x : ByteArray × Int) : List UInt8 := x.1.data.toList
def Strs (w : World) (p : Option Addr) (l : List ByteArray) : Prop :=
 l = [] ∨ ∃ b o, p = some ⟨b, o, none⟩ ∧ b < w.heap.size ∧ ∀ i, (h : i < l.length) → w.cell? ⟨b, o + i, none⟩ = some (.string l[i])
theorem Strs.below {w w' : World} {p : Option Addr} {l : List ByteArray} (h : Strs w p l) (hb : Below w.heap.size w w') : Strs w' p l := by
 rcases h with h | ⟨b, o, h1, h2, h3⟩
 ·exact .inl h
 ·refine .inr ⟨b, o, h1, Nat.lt_of_lt_of_le h2 hb.size, fun i hi => ?_⟩
  rw [hb.cell (p := ⟨b, o + i, none⟩) h2]
  exact h3 i hi
theorem Strs.at {w : World} {p : Option Addr} {l : List ByteArray} (h : Strs w p l) (h0 : 0 < l.length) :
  ∃ b o, p = some ⟨b, o, none⟩ ∧ b < w.heap.size ∧ ∀ i, (h : i < l.length) → w.cell? ⟨b, o + i, none⟩ = some (.string l[i]) := by
 rcases h with rfl | h
 ·cases h0
 ·exact h
def strCells (l : List ByteArray) : List Value := l.map .string
theorem strCells_snoc (l : List ByteArray) (x : ByteArray) : strCells (l ++ [x]) = strCells l ++ [.string x] := by simp [strCells]
theorem wp_append_str {P : Program} {w : World} {ops : Array Oper} {rest : List Oper} {o : Oper} {a : Act} {Q : Exit → Act → World → Prop} {sl x : Operand} {t base e c : Nat} {i : TypeInfo} {z v : Value} {n : Nat} {xs : List Value} {K : Nat} {y0 : ByteArray}
  (hgd : o.guard = none) (ho : o.op = .call { callee := .builtin .append, args := #[sl, x], argTypes := #[t, t] })
  (ht : P.underlying t = some (.slice e)) (hi : P.info? e = some i) (hz : i.zero = some z) (hzs : z.cells.size = 1) (hsize : i.size = 1) (hby : i.bytes = 16)
  (hs : a.eval sl = v) (hown : w.ownsRow base e 1 v n xs) (hx : a.eval x = .slice (some ⟨K, 0, none⟩) 1 c) (c0 : w.cell? ⟨K, 0, none⟩ = some (.string y0)) (hn : n ≤ 1048576) (hbase : base ≤ w.heap.size)
  (h : ∀ v' w', w'.ownsRow base e 1 v' (n + 1) (xs ++ [.string y0]) → w.grownBy w' v.ownBlock → wpList P ops Q rest (a.put o.dst v') w') : wpList P ops Q (o :: rest) a w :=
 wpList_append_own w hgd sl x t ho base e i z 1 16 ht hi hz hsize hby hzs (by decide) v n xs hs hown ⟨K, 0, none⟩ 1 c [.string y0] hx rfl
  (fun j u hj => by
   match j, hj with
   | 0, hj => cases hj; exact c0)
  (by intro u hu; rw [List.mem_singleton] at hu; subst hu; rfl) (by unfold maxLen; omega) (by omega) hbase
  fun v' w' h1 h2 _ => h v' w' h1 h2
theorem info_str : (Tryd.prog.info? 9).map (fun i => (i.zero, i.size, i.bytes)) = some (some (.string ⟨#[]⟩), 1, 16) := by kernel_rfl
end Go.Proofs.YthmmpjecmapajaaDoor

namespace Go.Proofs.YthmmpjecmapajaaDoor
def gtk (all : List (ByteArray × Int)) (b : List UInt8) : Int × Int × Nat :=
 if (tk (all.map rowC) b 25 1).1 = 0 then
  match all.find? (fun x => rowC x == b.take (tk (all.map rowC) b 25 1).2) with
  | some x => (x.2, 0, (tk (all.map rowC) b 25 1).2)
  | none => (0, 0, 0)
 else (0, (tk (all.map rowC) b 25 1).1, 0)
end Go.Proofs.YthmmpjecmapajaaDoor
