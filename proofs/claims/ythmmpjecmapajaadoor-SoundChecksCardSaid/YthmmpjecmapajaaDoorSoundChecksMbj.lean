/- Texts that SoundChecks's proof stands on, part 36 of 48. No condition of its own. -/
import Derived.Test.YthmmpjecmapajaaDoorSoundChecksMi
import Derived.Test.YthmmpjecmapajaaDoorSoundChecksMbe
import Derived.Test.YthmmpjecmapajaaDoorSoundChecksMbi
import Derived.StillTailTactics
import Derived.Deep.CutRange
import Derived.Deep.DeepCutAuto
import Derived.Maps.AppendAt
import Derived.Laws.OwnMore
import Derived.RegionTactic
import Derived.Deep.RegionWith
namespace Go.Proofs.YthmmpjecmapajaaDoor
open Go.RowKit Go.Lib
def encE (p : Nat) : List Value := [.bool (evT p).1, .int .i64 ((evT p).2.1 : Int), .int .i64 ((evT p).2.2 : Int)]
def OwnsP (O : Nat) (P : List Nat) (u v : Value) (wr : World) : Prop :=
 wr.ownsRow O 9 1 u P.length (strCells (P.map rowT)) ∧ wr.ownsRow O 55 3 v P.length (P.flatMap encE)
theorem OwnsP.below {O : Nat} {P : List Nat} {u v : Value} {w x : World} (h : OwnsP O P u v w) (hb : Below w.heap.size w x) : OwnsP O P u v x :=
 ⟨h.1.kept (below_grownBy hb none) (Classical.em _), h.2.kept (below_grownBy hb none) (Classical.em _)⟩
theorem OwnsP.lt {O : Nat} {P : List Nat} {u v : Value} {w : World} (h : OwnsP O P u v w) : (∀ k, u.ownBlock = some k → k < w.heap.size) ∧ ∀ k, v.ownBlock = some k → k < w.heap.size :=
 ⟨fun k e => (h.1.lt k e).2, fun k e => (h.2.lt k e).2⟩
end Go.Proofs.YthmmpjecmapajaaDoor

namespace Go.Proofs.YthmmpjecmapajaaDoor
open Go.RowKit Go.Lib
theorem bfrom_page (i : Bool) (w : World) : Calls Tryd.prog 73 #[.bool i] w fun e w' => e = .returned (.int .i64 (fromB i : Nat)) ∧ w = w' := by
 cases i
 all_goals
  go_enter Tryd.func73, Tryd.ntmps73
  go_wp2
  go_ret
  exact ⟨rfl, rfl⟩
set_option maxRecDepth 100000 in
set_option maxHeartbeats 1000000 in
theorem bmay_page (i : Bool) (d : Int) (p : Option Addr) (l : List Ev) (c : Nat) (w : World) (hp : EvsIn w p l) (hln : l.length ≤ 140737488355328) :
  Calls Tryd.prog 58 #[.bool i, .int .i64 d, .slice p l.length c] w fun e w' => e = .returned (.bool (mayB i d l)) ∧ Below w.heap.size w w' := by
 obtain ⟨B, hB⟩ : ∃ B, w.heap.size = B := ⟨_, rfl⟩
 have hfr := fun x => bfrom_page i x
 have hlv := levels_page p l c ((fromB i : Nat) : Int) w hp hln
 unfold LvGives at hlv
 have hor : ((lvG l ((fromB i : Nat) : Int)).2 = 0 ∧ badV (fromB i) l l.length = false) ∨ ((lvG l ((fromB i : Nat) : Int)).2 = 7 ∧ badV (fromB i) l l.length = true) := by
  cases hb : badV (fromB i) l l.length with
  | false => exact .inl ⟨lvG_ok hb, rfl⟩
  | true => exact .inr ⟨lvG_bad hb, rfl⟩
 have hmay : mayB i d l = (dcOk i d && !badV (fromB i) l l.length) := rfl
 rw [hmay]
 have HONE := arrA_one (lvG l ((fromB i : Nat) : Int)).1
 have HSZ : (Tryd.prog.info? 95).map (·.size) = some (arrA (lvG l ((fromB i : Nat) : Int)).1).size := arr_sized _
 obtain ⟨Y, hY⟩ : ∃ Y, arrA (fun _ => 0) = Y := ⟨_, rfl⟩
 have hzv : ∀ w, (zeroValue 95).run Tryd.prog w = .ok (.agg Y) w := by rw [← hY]; exact arr_zero
 have hYZ : Y.size = (arrA (lvG l ((fromB i : Nat) : Int)).1).size := by rw [← hY, arrA_size, arrA_size]
 generalize arrA (lvG l ((fromB i : Nat) : Int)).1 = Z at hlv HONE HSZ hYZ
 generalize (lvG l ((fromB i : Nat) : Int)).2 = f at hlv hor
 generalize badV (fromB i) l l.length = bv at hor ⊢
 generalize ((fromB i : Nat) : Int) = fr at hfr hlv
 have HB := Lib.hid hB
 generalize l.length = n at hlv ⊢
 obtain ⟨M, hM⟩ : ∃ M, (dcOk i d && !bv) = M := ⟨_, rfl⟩
 rw [hM]
 clear hp hY hB hln hmay
 go_enter Tryd.func58, Tryd.ntmps58
 go_wp2_with fail
 refine (hfr _).mono ?_
 rintro e w2 ⟨rfl, rfl⟩
 go_wp2_with fail
 refine hlv.mono ?_
 rintro e w2 ⟨rfl, hb2⟩
 rw [HB.out] at hb2
 have hz3 : B ≤ w2.heap.size := by rw [← HB.out]; exact (show Below w.heap.size w w2 by rw [HB.out]; exact hb2).size
 obtain ⟨X, hX⟩ : ∃ X, w2.heap.size = X := ⟨_, rfl⟩
 have hh4 := heap_alloc_new w2 (.cells Y 95 (0, 0))
 have hb4 := hb2.alloc hz3 (.cells Y 95 (0, 0))
 have hsz4 : (w2.alloc (.cells Y 95 (0, 0))).heap.size = X + 1 := by simp; omega
 rw [hX] at hh4
 generalize hw4 : w2.alloc (.cells Y 95 (0, 0)) = w4 at hh4 hb4 hsz4
 have HW4 := Lib.hid hw4
 have HX := Lib.hid hX
 have HXB := Lib.hid (show B ≤ X by omega)
 clear hw4 hX hb2 hz3 hlv hfr
 have FIN := Lib.hid (fun (r : Bool) (x : World) (hx : Below B w x) (h : M = r) => (⟨by rw [h], by rw [HB.out]; exact hx⟩ : Ending.returned (.bool r) = .returned (.bool M) ∧ Below w.heap.size w x))
 rcases hor with ⟨rfl, rfl⟩ | ⟨rfl, rfl⟩
 ·cases i with
  | false =>
   obtain ⟨b0, h0⟩ : ∃ b0, (d == 0) = b0 := ⟨_, rfl⟩
   have R := Lib.hid (show M = b0 by rw [← hM, dcOk_false, h0]; simp)
   clear hM
   cases b0
   all_goals
    go_wp2_with (rw [HW4.out, HX.out]; with_reducible refine wp_store_arr rfl 95 _ _ rfl X Z Y rfl rfl 95 hh4 HSZ hYZ HONE ?_; intro w5 hh5 hg5; clear hzv)
    have hb6 := hb4.grown hg5 (by have := HXB.out; omega) (fun k hk => by injection hk with hk; have := HXB.out; omega)
    go_ret
    exact FIN.out _ _ hb6 R.out
  | true =>
   obtain ⟨b0, h0⟩ : ∃ b0, decide (1 ≤ d) = b0 := ⟨_, rfl⟩
   obtain ⟨b1, h1⟩ : ∃ b1, decide (d ≤ 254) = b1 := ⟨_, rfl⟩
   have R := Lib.hid (show M = (b0 && b1) by rw [← hM, dcOk_true, h0, h1]; simp)
   clear hM
   cases b0 <;> cases b1
   all_goals
    go_wp2_with (rw [HW4.out, HX.out]; with_reducible refine wp_store_arr rfl 95 _ _ rfl X Z Y rfl rfl 95 hh4 HSZ hYZ HONE ?_; intro w5 hh5 hg5; clear hzv)
    have hb6 := hb4.grown hg5 (by have := HXB.out; omega) (fun k hk => by injection hk with hk; have := HXB.out; omega)
    go_ret
    exact FIN.out _ _ hb6 R.out
 ·have R := Lib.hid (show M = false by rw [← hM]; simp)
  clear hM
  cases i
  all_goals
   go_wp2_with (rw [HW4.out, HX.out]; with_reducible refine wp_store_arr rfl 95 _ _ rfl X Z Y rfl rfl 95 hh4 HSZ hYZ HONE ?_; intro w5 hh5 hg5; clear hzv)
   have hb6 := hb4.grown hg5 (by have := HXB.out; omega) (fun k hk => by injection hk with hk; have := HXB.out; omega)
   go_ret
   exact FIN.out _ _ hb6 R.out
end Go.Proofs.YthmmpjecmapajaaDoor
