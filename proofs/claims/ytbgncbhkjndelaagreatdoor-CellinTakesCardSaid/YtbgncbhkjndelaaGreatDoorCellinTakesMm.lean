/- Texts that CellinTakes's proof stands on, part 13 of 38. No condition of its own. -/
import Derived.Test.YtbgncbhkjndelaaGreatDoorCellinTakesMd
import Derived.Laws.ResultCell
import Derived.Laws.Rows
import Derived.StillTailTactics
namespace Go.Proofs.YtbgncbhkjndelaaGreatDoor
open Go.RowKit
theorem results_pair {P : Program} {fn : Func} {p u : Tmp} {ty : TypeId} (h : fn.results = #[.cell p ty, .tmp u]) (tmps : Array Value) (w : World) (g : Nat) (t : TypeId) (cs : Array Value) (fr : Nat × Nat) (d : TypeDesc)
  (hp : tmps.getD p undef = .pointer (some ⟨g, 0, none⟩)) (hg : w.heap[g]? = some (.cells cs t fr))
  (hu : P.underlying ty = some d) (hd : (match d with | .struct _ | .array _ _ => true | _ => false) = true) (hi : (P.info? ty).map (·.size) = some cs.size) :
  (results fn tmps).run P w = .ok (.tuple #[.agg cs, tmps.getD u undef]) w := by
 rw [results_cell_tmp h, hp]
 simp [asAddr, Result.andThen, run_loadVar_row w g t ty cs fr d hg hu hd hi]
theorem results_trip {P : Program} {fn : Func} {p u v : Tmp} {ty : TypeId} (h : fn.results = #[.cell p ty, .tmp u, .tmp v]) (tmps : Array Value) (w : World) (g : Nat) (t : TypeId) (cs : Array Value) (fr : Nat × Nat) (d : TypeDesc)
  (hp : tmps.getD p undef = .pointer (some ⟨g, 0, none⟩)) (hg : w.heap[g]? = some (.cells cs t fr))
  (hu : P.underlying ty = some d) (hd : (match d with | .struct _ | .array _ _ => true | _ => false) = true) (hi : (P.info? ty).map (·.size) = some cs.size) :
  (results fn tmps).run P w = .ok (.tuple #[.agg cs, tmps.getD u undef, tmps.getD v undef]) w := by
 have hp' : tmps[p]?.getD undef = .pointer (some ⟨g, 0, none⟩) := by simpa using hp
 simp [results, h, hp', asAddr, Result.andThen, run_loadVar_row w g t ty cs fr d hg hu hd hi]
theorem grown_set {w x : World} {row : Option Nat} {a : Addr} {v : Value} (h : w.grownBy x row) (hB : w.heap.size ≤ a.block) : w.grownBy (x.setCell a v) row := by
 have g := grownBy_setCell x a v
 refine ⟨g.os.trans h.os, g.tape.trans h.tape, g.output.trans h.output, Nat.le_trans h.size g.size, fun k hk hn => ?_⟩
 exact (g.block k (Nat.lt_of_lt_of_le hk h.size) (by intro e; injection e with e; omega)).trans (h.block k hk hn)
theorem heap_keep {x : World} {B : Nat} {o ob : Obj} (h : x.heap[B]? = some o) : (x.alloc ob).heap[B]? = some o :=
 (((Below.refl _ x).alloc (Nat.le_refl _) ob).block B (Array.getElem?_eq_some_iff.1 h).1).trans h
theorem head_none {md : Region.Mode} {ops : Array Oper} (n : Nat) : HeadInv md ops n (Array.replicate ops.size false) :=
 ⟨by simp, fun j oj _ hl => (by rw [getD_replicate_false] at hl; cases hl), fun t _ ht => getD_in (by simpa using ht) (getD_replicate_false _ _)⟩
theorem head_set {md : Region.Mode} {ops : Array Oper} {n i : Nat} {listed : Array Bool} (inv : HeadInv md ops n listed) (hi : (Region.ready md ops listed).contains i = true) (hin : i < n) : HeadInv md ops n (listed.setIfInBounds i true) :=
 inv.set (by simpa using hi) hin
theorem wpAny_mid {P : Program} {Q : Exit → Act → World → Prop} {a : Act} {w : World} {l : List Oper} {listed : Array Bool} {m : Nat} (k n : Nat) (inv : HeadInv .any l.toArray n listed) (hsel : Region.noSelect l.toArray = true) (hn : n < l.length) (hk : k ≤ n)
  (hs : Region.sinkB .any l.toArray n = true) (hc : Region.chainB .any l.toArray n = true) (hlex : Region.lexHead .any l.toArray (l.toArray.size - n) (n - k) k listed = true) (hm : m = l.length - k)
  (h : wpStill P l.toArray w (fun a' => wpList P l.toArray Q (l.drop n) a' w) ((l.drop k).take (n - k)) a) : wpAny P .any l.toArray Q m listed a w := by
 have htl : ((l.drop k).take (n - k)).length = n - k := by simp; omega
 have hdl : (l.drop n).length = l.toArray.size - n := by simp
 have H := wpAnyL_lex (md := .any) (g := l.toArray.size - n) hsel hs hc (by simpa using hn) ((l.drop k).take (n - k)) k listed a (fun j hj => by
  have hj' : j < n - k := by rw [htl] at hj; exact hj
  rw [List.getElem?_take, if_pos hj', List.getElem?_drop]
  simp) (by rw [htl]; omega) inv (by rw [htl]; exact hlex) h
 have := wpAny_of_head (Q' := Q) (g := l.toArray.size - n) (fun listed a' hL => by
  have := wpAny_of_seq (md := .any) (Q' := Q) (l.drop n) n listed a' w (fun j => by simp [List.getElem?_drop]) (by rw [hdl]; exact hL.1) hL.2
  rwa [hdl] at this) _ _ _ H
 rw [htl, show n - k + (l.toArray.size - n) = m by simp; omega] at this
 exact this
end Go.Proofs.YtbgncbhkjndelaaGreatDoor
