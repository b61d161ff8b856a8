/- Texts that CellinSame's proof stands on, part 23 of 35. No condition of its own. -/
import Derived.Test.YtbgncbhkjndelaaGreatDoorCellinSameMa
import Derived.Test.YtbgncbhkjndelaaGreatDoorCellinSameMt
import Derived.Test.YtbgncbhkjndelaaGreatDoorCellinSameMu
import Derived.Test.YtbgncbhkjndelaaGreatDoorCellinSameMv
import Derived.WalkKit
import Derived.WalkMore
import Derived.IntWalk
import Derived.Lib.Strings
import Derived.Lib.LaidTab
import Derived.MakeChecks
import Derived.Test.YtbgncbhkjndelaaGreatDoorRows
namespace Go.Proofs.YtbgncbhkjndelaaGreatDoor
open Go.RowKit Go.Lib
def patL : List ByteArray := [⟨#[48, 48, 49, 49]⟩, ⟨#[48, 48, 49, 48, 49]⟩, ⟨#[48, 48, 49, 48, 48]⟩, ⟨#[49, 48, 48, 49]⟩, ⟨#[48, 48, 48, 49, 49]⟩, ⟨#[48, 49, 49, 49]⟩, ⟨#[48, 48, 48, 48, 49, 48]⟩, ⟨#[49, 48, 49, 49]⟩, ⟨#[48, 48, 48, 49, 48]⟩, ⟨#[48, 48, 48, 48, 49, 49]⟩, ⟨#[48, 49, 48, 49]⟩, ⟨#[49, 48, 49, 48]⟩, ⟨#[48, 49, 48, 48]⟩, ⟨#[49, 48, 48, 48]⟩, ⟨#[48, 49, 49, 48]⟩, ⟨#[49, 49]⟩]
theorem patL_len : patL.length = 16 := rfl
def sameN (intra : Bool) (i : Nat) : Nat := if intra then i else 15 - i
def HasPats (w : World) : Prop := ∀ i, (h : i < 16) → w.cell? ⟨3, i, none⟩ = some (.string (patL[i]'(by rw [patL_len]; exact h)))
theorem HasPats.lt {w : World} (h : HasPats w) : 3 < w.heap.size := World.block_lt_of_cell? w ⟨3, 0, none⟩ (h 0 (by decide))
theorem HasPats.below {w w' : World} (h : HasPats w) (hb : Below w.heap.size w w') : HasPats w' := fun i hi => (hb.cell (p := ⟨3, i, none⟩) h.lt).trans (h i hi)
theorem same_code (intra : Bool) (k : Int) (h0 : -1000 ≤ k) (h1 : k ≤ 1000) (w : World) : Calls Tryz.prog 75 #[.bool intra, .int .i64 k] w fun e w' => e = .returned (.int .i64 (if intra then k else 15 - k)) ∧ w = w' := by
 cases intra with
 | true =>
  go_enter Tryz.func75, Tryz.ntmps75
  go_wp2
  go_ret
  exact ⟨rfl, rfl⟩
 | false =>
  go_enter Tryz.func75, Tryz.ntmps75
  go_wp2
  go_ret
  exact ⟨rfl, rfl⟩
theorem same_nat (intra : Bool) (i : Nat) (h : i < 16) (w : World) : Calls Tryz.prog 75 #[.bool intra, .int .i64 (i : Int)] w fun e w' => e = .returned (.int .i64 (sameN intra i : Nat)) ∧ w = w' := by
 refine (same_code intra i (by omega) (by omega) w).mono ?_
 rintro e w' ⟨rfl, rfl⟩
 have e : (if intra then (i : Int) else 15 - (i : Int)) = (sameN intra i : Nat) := by
  unfold sameN
  cases intra
  ·simp; omega
  ·rfl
 exact ⟨by rw [← e], rfl⟩
end Go.Proofs.YtbgncbhkjndelaaGreatDoor

namespace Go.Proofs.YtbgncbhkjndelaaGreatDoor
open Go.RowKit Go.Lib
def stepZ : List Int := [-1, -2, 1, 2]
def stepR : List ByteArray := [⟨#[48, 48]⟩, ⟨#[48, 49]⟩, ⟨#[49, 48]⟩, ⟨#[49, 49]⟩]
def stepN (v : Nat) : Int := stepZ[v]?.getD 0
def stk (b : List UInt8) : Int × Int × Nat := if b.length < 2 then (0, 2, 0) else (stepN (num (b.take 2)), 0, 2)
theorem stk_few {b : List UInt8} (h : b.length < 2) : stk b = (0, 2, 0) := if_pos h
theorem stk_some {b : List UInt8} (h : 2 ≤ b.length) : stk b = (stepN (num (b.take 2)), 0, 2) := if_neg (by omega)
def nextQ (q s : Int) : Int := clip (clip q 1 31 + clip s (-2) 2) 1 31
def HasSteps (w : World) : Prop := ∀ i, (h : i < 4) → w.cell? ⟨0, 2 * i, none⟩ = some (.string (stepR[i]'h)) ∧ w.cell? ⟨0, 2 * i + 1, none⟩ = some (.int .i64 (stepZ[i]'h))
theorem HasSteps.lt {w : World} (h : HasSteps w) : 0 < w.heap.size := World.block_lt_of_cell? w ⟨0, 0, none⟩ (h 0 (by decide)).1
theorem HasSteps.below {w w' : World} (h : HasSteps w) (hb : Below w.heap.size w w') : HasSteps w' := fun i hi =>
 ⟨(hb.cell (p := ⟨0, 2 * i, none⟩) h.lt).trans (h i hi).1, (hb.cell (p := ⟨0, 2 * i + 1, none⟩) h.lt).trans (h i hi).2⟩
theorem HasSteps.grown {w w' : World} {b : Nat} (h : HasSteps w) (hg : w.grownBy w' (some b)) (hne : 0 ≠ b) : HasSteps w' := fun i hi => by
 have e : ∀ o, w'.cell? ⟨0, o, none⟩ = w.cell? ⟨0, o, none⟩ := fun o => by
  have := hg.block 0 h.lt (by simpa using hne)
  unfold World.cell?
  rw [this]
 exact ⟨(e _).trans (h i hi).1, (e _).trans (h i hi).2⟩
def NoneTo (a b : Int) (i : Nat) : Prop := ∀ j : Nat, j < i → nextQ a (j : Int) ≠ b ∧ nextQ a (-(j : Int)) ≠ b
theorem NoneTo.first (a b : Int) : NoneTo a b 0 := fun j h => absurd h (Nat.not_lt_zero j)
theorem NoneTo.next {a b : Int} {i : Nat} (h : NoneTo a b i) (h1 : nextQ a (i : Int) ≠ b) (h2 : nextQ a (-(i : Int)) ≠ b) : NoneTo a b (i + 1) := fun j hj => by
 by_cases e : j = i
 ·subst e; exact ⟨h1, h2⟩
 ·exact h j (by omega)
def NoStep (s : Int) (i : Nat) : Prop := ∀ j, j < i → stepN j ≠ s
theorem NoStep.first (s : Int) : NoStep s 0 := fun j h => absurd h (Nat.not_lt_zero j)
theorem NoStep.next {s : Int} {i : Nat} (h : NoStep s i) (h1 : stepN i ≠ s) : NoStep s (i + 1) := fun j hj => by
 by_cases e : j = i
 ·subst e; exact h1
 ·exact h j (by omega)
theorem NoStep.all {s : Int} (h : NoStep s 4) : ¬ s = -1 ∧ ¬ s = -2 ∧ ¬ s = 1 ∧ ¬ s = 2 :=
 ⟨fun e => h 0 (by decide) e.symm, fun e => h 1 (by decide) e.symm, fun e => h 2 (by decide) e.symm, fun e => h 3 (by decide) e.symm⟩
def STake (s : ByteArray) (rb p : Nat) (w : World) (e : Ending) (w' : World) : Prop :=
 e = .returned (.tuple #[.int .i64 (stk ((showL s.data.toList).drop p)).1, .int .i64 (stk ((showL s.data.toList).drop p)).2.1]) ∧
  IsRd w' rb s (p + (stk ((showL s.data.toList).drop p)).2.2) ∧ w.grownBy w' (some rb)
theorem stk_len (s : ByteArray) (p : Nat) : ((showL s.data.toList).drop p).length = 8 * s.size - p := by rw [List.length_drop, showL_length]; rfl
set_option maxHeartbeats 1000000 in
theorem stake_code (w : World) (rb : Nat) (s : ByteArray) (p : Nat) (hp : HasSteps w) (hne : 0 ≠ rb) (hr : IsRd w rb s p) : Calls Tryz.prog 28 #[.pointer (some ⟨rb, 0, none⟩)] w (STake s rb p w) := by
 have hpl := hr.2.1
 have hl := stk_len s p
 have hdl : s.data.toList.length = s.size := rfl
 unfold STake
 have hc := take_code w rb s p 2 hr
 by_cases h2 : 8 * s.size - p < 2
 ·have hs := stk_few (b := (showL s.data.toList).drop p) (by omega)
  have ha : ask s.data.toList p 2 = (0, 2) := ask_short (by omega) (by rw [hdl]; omega)
  have hto : askTo s.data.toList p 2 = p := by unfold askTo; rw [ha]; rfl
  rw [ha, hto] at hc
  rw [hs]
  clear hs ha hto hl
  go_enter Tryz.func28, Tryz.ntmps28
  go_wp2_with fail
  refine hc.mono ?_
  rintro e w1 ⟨rfl, hr1, hg1⟩
  go_wp2
  go_ret2
  exact ⟨rfl, hr1, hg1⟩
 ·have hs := stk_some (b := (showL s.data.toList).drop p) (by omega)
  have ha : ask s.data.toList p 2 = (((tell s.data.toList p 2 : Nat) : Int), 0) := ask_ok (by omega) (by rw [hdl]; omega)
  have hto : askTo s.data.toList p 2 = p + 2 := by unfold askTo; rw [ha]; rfl
  have hv := tell_lt s.data.toList p 2
  have ht : num (((showL s.data.toList).drop p).take 2) = tell s.data.toList p 2 := rfl
  rw [ha, hto] at hc
  rw [hs, ht]
  obtain ⟨v, hv'⟩ : ∃ v, tell s.data.toList p 2 = v := ⟨_, rfl⟩
  rw [hv'] at hc hv ⊢
  have HP := Lib.hid (fun w' (hg : w.grownBy w' (some rb)) => (hp.grown hg hne : HasSteps w'))
  clear hs ha hto hl ht hv' hp
  rcases (by omega : v = 0 ∨ v = 1 ∨ v = 2 ∨ v = 3) with rfl | rfl | rfl | rfl
  all_goals
   go_enter Tryz.func28, Tryz.ntmps28
   go_wp2_with fail
   refine hc.mono ?_
   rintro e w1 ⟨rfl, hr1, hg1⟩
   have hp1 := HP.out _ hg1
   have c1 : w1.cell? ⟨0, 1, none⟩ = some (.int .i64 (-1)) := (hp1 0 (by decide)).2
   have c3 : w1.cell? ⟨0, 3, none⟩ = some (.int .i64 (-2)) := (hp1 1 (by decide)).2
   have c5 : w1.cell? ⟨0, 5, none⟩ = some (.int .i64 1) := (hp1 2 (by decide)).2
   have c7 : w1.cell? ⟨0, 7, none⟩ = some (.int .i64 2) := (hp1 3 (by decide)).2
   go_wp2
   go_ret2
   exact ⟨rfl, hr1, hg1⟩
end Go.Proofs.YtbgncbhkjndelaaGreatDoor

namespace Go.Proofs.YtbgncbhkjndelaaGreatDoor
open Go.RowKit Go.Lib
theorem step_cells {H : Type} {enc : TypeId × Value → H} {P : Program} {w : World} {base : Nat} {sp : Nat → Bool} {held : Bool} {e ts ti : TypeId} {f0 f1 : Field}
  (he : P.underlying e = some (.struct #[f0, f1])) (hstr : P.underlying ts = some .string) (hi : P.underlying ti = some (.int .i64)) (e0 : f0.type = ts) (e1 : f1.type = ti) (o0 : f0.offset = 0) (o1 : f1.offset = 1) (cs : P.cellsOf ts = 1) (ci : P.cellsOf ti = 1)
  {k : Nat} {vs : List Value} {x : List UInt8} {z : Int} {q : List MemPlace} (hl : vs.length = 2) (h : DataW.trod enc P w base sp held k e vs = some (.agg [.lit (.string x), .lit (.int .i64 z)], q)) :
  ∃ s : ByteArray, vs = [.string s, .int .i64 z] ∧ s.data.toList = x := by
 obtain ⟨xs, k, hk, hxy, _, hxl, hfs⟩ := DataW.trod_struct he h
 match xs, hxl, vs, hl with
 | [y0, y1], _, [v0, v1], _ =>
  have g0 := hfs 0 f0 rfl
  have g1 := hfs 1 f1 rfl
  rw [e0, o0, cs] at g0
  rw [e1, o1, ci] at g1
  obtain ⟨x0, q0, hy0, w0⟩ := DataW.trod_string hstr (show DataW.trod _ P w base sp held k ts [v0] = some y0 from g0)
  obtain ⟨x1, q1, hy1, w1⟩ := DataW.trod_int hi (show DataW.trod _ P w base sp held k ti [v1] = some y1 from g1)
  subst hy0 hy1
  injection q0 with q0
  injection q1 with q1
  subst q0 q1
  simp only [List.map_cons, List.map_nil, Prod.mk.injEq, DataW.agg.injEq, List.cons.injEq, DataW.lit.injEq, Lit.string.injEq, Lit.int.injEq, true_and, and_true] at hxy
  obtain ⟨⟨r0, r1⟩, _⟩ := hxy
  subst r0 r1
  exact ⟨x0, rfl, rfl⟩
theorem parts_of {H : Type} {enc : TypeId × Value → H} {P : Program} {w : World} {base : Nat} {sp : Nat → Bool} {held : Bool} {fuel : Nat} {t e : TypeId} {n c : Nat} {cs : List Value} {ls : List (DataW H)} {p : List MemPlace}
  (ht : P.underlying t = some (.array n e)) (hce : P.cellsOf e = c) (hct : P.cellsOf t = n * c)
  (h : DataW.trod enc P w base sp held fuel t cs = some (.agg ls, p)) : cs.length = n * c ∧ ∀ i, i < n → ∃ k d q, ls[i]? = some d ∧ DataW.trod enc P w base sp held k e ((cs.drop (i * c)).take c) = some (d, q) := by
 cases fuel with
 | zero => simp [DataW.trod] at h
 | succ fuel =>
  simp only [DataW.trod, ht, hce, hct] at h
  split at h
  ·rename_i hl
   obtain ⟨xs, hm, hx⟩ := Option.map_eq_some_iff.1 h
   have hxs : xs.map (·.1) = ls := by
    have := congrArg Prod.fst hx
    simpa using this
   refine ⟨hl, fun i hi => ?_⟩
   obtain ⟨b, hb, hf⟩ := mapM_at hm i i (by simp [hi])
   refine ⟨fuel, b.1, b.2, ?_, hf⟩
   rw [← hxs]
   simp [hb]
  ·cases h
theorem stepL_text : (Rows.laid_overspill_steps_codes : DataW Unit) = .agg [.agg [.lit (.string [48, 48]), .lit (.int .i64 (-1))], .agg [.lit (.string [48, 49]), .lit (.int .i64 (-2))], .agg [.lit (.string [49, 48]), .lit (.int .i64 1)], .agg [.lit (.string [49, 49]), .lit (.int .i64 2)]] := by kernel_rfl
theorem two_at_place {cs : List Value} {i : Nat} {a b : Value} (h : (cs.drop i).take 2 = [a, b]) : cs[i]? = some a ∧ cs[i + 1]? = some b := by
 have h0 := congrArg (·[0]?) h
 have h1 := congrArg (·[1]?) h
 simp only [List.getElem?_take, List.getElem?_drop] at h0 h1
 exact ⟨by simpa using h0, by simpa using h1⟩
theorem steps_laid {laid : List (String × DataW Unit)} {W : World} (hL : laidMetH Tryz.prog laid W) (hm : ("overspill/steps.codes", Rows.laid_overspill_steps_codes) ∈ laid ∧ (laid.all fun x => x.2.handleName?.isNone) = true) : HasSteps W := by
 rw [MakeChecks.laidMetH_plain _ _ _ hm.2] at hL
 obtain ⟨ps, hv, _, _⟩ := hL
 obtain ⟨g, t, cs, fuel, p, hg, ht, hc, hd⟩ := laid_one hv hm.1
 obtain rfl := Option.some.inj ((show Tryz.prog.globalNamed "overspill/steps.codes" = some 0 by kernel_rfl).symm.trans hg)
 obtain rfl := Option.some.inj ((show (Tryz.prog.globals[0]?).map (·.type) = some 88 by kernel_rfl).symm.trans ht)
 rw [stepL_text] at hd
 obtain ⟨hl, hp⟩ := parts_of (c := 2) Tryz.underlying88 (by kernel_rfl) (by kernel_rfl) hd
 have hcell := World.var?_cell hg hc
 have key : ∀ i, (hi : i < 4) → ∃ s : ByteArray, (cs.toList.drop (i * 2)).take 2 = [.string s, .int .i64 (stepZ[i]'hi)] ∧ s = stepR[i]'hi := by
  intro i hi
  obtain ⟨k, d, q, hd1, hd2⟩ := hp i hi
  have hlen : ((cs.toList.drop (i * 2)).take 2).length = 2 := by rw [List.length_take, List.length_drop, hl]; omega
  rcases (by omega : i = 0 ∨ i = 1 ∨ i = 2 ∨ i = 3) with rfl | rfl | rfl | rfl
  all_goals
   obtain rfl := Option.some.inj hd1
   obtain ⟨s, h1, h2⟩ := step_cells Tryz.underlying87 Tryz.underlying9 Tryz.underlying3 rfl rfl rfl rfl (by kernel_rfl) (by kernel_rfl) hlen hd2
   exact ⟨s, h1, by apply ByteArray.ext; apply Array.ext'; exact h2⟩
 intro i hi
 obtain ⟨s, h1, rfl⟩ := key i hi
 obtain ⟨h2, h3⟩ := two_at_place h1
 rw [hcell, hcell, Nat.mul_comm 2 i, ← Array.getElem?_toList, ← Array.getElem?_toList]
 exact ⟨h2, h3⟩
end Go.Proofs.YtbgncbhkjndelaaGreatDoor
