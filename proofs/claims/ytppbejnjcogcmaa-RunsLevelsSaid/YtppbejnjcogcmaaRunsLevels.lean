/- The levels of any events, and what is wrong with them, are what the document's own answer says; and the chapter's examples come out. Condition: none but the law's own (up to 100 events). -/
import Derived.Test.YtppbejnjcogcmaaRows
import Derived.Test.YtppbejnjcogcmaaRlive
import Derived.Test.YtppbejnjcogcmaaLaws
import Derived.ProofKit
namespace Go.Proofs.Ytppbejnjcogcmaa
open Go.ChangeShapes Go.WideShapes Go.ChangeAt Go.RowKit

set_option maxRecDepth 100000 in
set_option maxHeartbeats 2000000 in
theorem runsLevels_walk (p : Option Addr) (n c : Nat) (a : Int) (w : World) (hx : RowsAt w EvCells 3 p n) (hn : n ≤ maxLen) (_ : (Lit.int .i64 a).wf = true) : Calls Try.prog 4 #[.slice p n c, .int .i64 a] w fun e w' => e = .returned (.bool true) ∧ Below w.heap.size w w' := by
  obtain ⟨L, rfl, hp, _⟩ := rows_evs hx
  unfold maxLen at hn
  by_cases h100 : 100 < L.length
  · have t0 : decide (100 < (L.length : Int)) = true := by simp; omega
    generalize L.length = n at h100 t0 ⊢
    have t1 : decide (100 < n) = true := by simpa using h100
    clear hx hp hn h100
    go_enter Try.func4, Try.ntmps4
    go_wp2_with fail
    refine (lives10 _).mono ?_
    rintro e w1 ⟨rfl, hb1⟩
    go_wp2
    go_ret
    exact ⟨rfl, hb1⟩
  · have t0 : decide (100 < (L.length : Int)) = false := by simp; omega
    have t1 : decide (100 < L.length) = false := by simpa using h100
    have hlv := levels_code p L c a w hp (by omega)
    have hpg := fun (x : World) (hb : Below w.heap.size w x) => levels_page p L c a x (hp.below hb) (by omega)
    unfold LvGives at hlv hpg
    have heq : ∀ w, (Op.equalIn 10000 22 (.agg (arrA (lvG L a).1)) (.agg (arrA (lvG L a).1))).run Try.prog w = .ok true w := fun w => (arr_equal _ _ w).trans (by rw [arrEq_iff.2 fun _ _ => rfl])
    have HONE := arrA_one (lvG L a).1
    have HSZ : (Try.prog.info? 22).map (·.size) = some (arrA (lvG L a).1).size := arr_sized _
    obtain ⟨Y, hY⟩ : ∃ Y, arrA (fun _ => 0) = Y := ⟨_, rfl⟩
    have hzv : ∀ w, (zeroValue 22).run Try.prog w = .ok (.agg Y) w := by rw [← hY]; exact arr_zero
    have hYZ : Y.size = (arrA (lvG L a).1).size := by rw [← hY, arrA_size, arrA_size]
    generalize arrA (lvG L a).1 = Z at hlv hpg heq HONE HSZ hYZ
    generalize (lvG L a).2 = z at hlv hpg
    have hzz : (z == z) = true := beq_self_eq_true z
    obtain ⟨n, hn2⟩ : ∃ n, L.length = n := ⟨_, rfl⟩
    rw [hn2] at t0 t1 hlv hpg ⊢
    have HPG := Lib.hid hpg
    clear hx hp hn h100 hY hn2 hpg
    go_enter Try.func4, Try.ntmps4
    go_wp2_with fail
    refine hlv.mono ?_
    rintro e w1 ⟨rfl, hb1⟩
    have hz1 := hb1.size
    obtain ⟨X, hX⟩ : ∃ X, w1.heap.size = X := ⟨_, rfl⟩
    have hh2 := heap_alloc_new w1 (.cells Y 22 (0, 0))
    have hb2 := hb1.alloc hz1 (.cells Y 22 (0, 0))
    have hsz2 : (w1.alloc (.cells Y 22 (0, 0))).heap.size = X + 1 := by simp; omega
    rw [hX] at hh2
    generalize hw2 : w1.alloc (.cells Y 22 (0, 0)) = w2 at hh2 hb2 hsz2
    have HW2 := Lib.hid hw2
    have HX := Lib.hid hX
    have HXW := Lib.hid (show w.heap.size ≤ X by omega)
    clear hw2 hX hb1 hz1 hlv
    go_wp2_with (rw [HW2.out, HX.out]; with_reducible refine wp_store_arr rfl 22 _ _ rfl X Z Y rfl rfl 22 hh2 HSZ hYZ HONE ?_; intro w3 hh3 hg3)
    have hb3 : Below w.heap.size w w3 := hb2.grown hg3 (by have := HXW.out; omega) (fun k hk => by injection hk with hk; have := HXW.out; omega)
    have hsz3 : X + 1 ≤ w3.heap.size := by have := hg3.size; omega
    clear hb2 hg3 hh2 hsz2
    refine (HPG.out _ hb3).mono ?_
    rintro e w4 ⟨rfl, hb4⟩
    have hz4 := hb4.size
    have hb5 := hb3.trans (hb4.mono (by have := HXW.out; omega))
    have hh4 : w4.heap[X]? = some (.cells Z 22 (0, 0)) := (hb4.block X (by omega)).trans hh3
    obtain ⟨X2, hX2⟩ : ∃ X2, w4.heap.size = X2 := ⟨_, rfl⟩
    have hh5 := heap_alloc_new w4 (.cells Y 22 (0, 0))
    have hk5 := heap_keep (ob := .cells Y 22 (0, 0)) hh4
    have hb6 := hb5.alloc (by have := HXW.out; omega) (.cells Y 22 (0, 0))
    have hsz5 : (w4.alloc (.cells Y 22 (0, 0))).heap.size = X2 + 1 := by simp; omega
    rw [hX2] at hh5
    generalize hw5 : w4.alloc (.cells Y 22 (0, 0)) = w5 at hh5 hk5 hb6 hsz5
    have HW5 := Lib.hid hw5
    have HX2 := Lib.hid hX2
    have HXX := Lib.hid (show X < X2 by omega)
    clear hw5 hX2 hb3 hb4 hb5 hh3 hh4 hz4 hsz3
    have K1 : ∀ (x : World), w5.grownBy x (some X2) → x.heap[X]? = some (.cells Z 22 (0, 0)) := fun x hg => (hg.block X (by have := HXX.out; omega) (by intro e; injection e with e; have := HXX.out; omega)).trans hk5
    have K2 : ∀ (x : World), w5.grownBy x (some X2) → Below w.heap.size w x := fun x hg => hb6.grown hg (by have := HXW.out; have := HXX.out; omega) (fun k hk => by injection hk with hk; have := HXW.out; have := HXX.out; omega)
    clear hk5 hb6 hsz5
    go_wp2_with (first | (rw [HW5.out, HX2.out]; with_reducible refine wp_store_arr rfl 22 _ _ rfl X2 Z Y rfl rfl 22 hh5 HSZ hYZ HONE ?_; intro w6 hh6 hg6; have hk6 := K1 _ hg6; have hb7 := K2 _ hg6; clear K1 K2 hg6 hzv) | (with_reducible refine wpList_load_row rfl 22 _ rfl X rfl 22 Z (0, 0) _ hk6 Try.underlying22 rfl HSZ ?_) | (with_reducible refine wpList_load_row rfl 22 _ rfl X2 rfl 22 Z (0, 0) _ hh6 Try.underlying22 rfl HSZ ?_))
    have hz7 := hb7.size
    refine (lives10 _).mono ?_
    rintro e w7 ⟨rfl, hb8⟩
    have hb9 := hb7.trans (hb8.mono hz7)
    go_wp2
    go_ret
    exact ⟨rfl, hb9⟩

theorem runsLevels_own : ownKnob Try.prog.godebug = none := by kernel_rfl
theorem runsLevels_laid : laidOutB Try.prog = true := by kernel_rfl
theorem runsLevels_reads : Try.f4.params.toList.all (fun t => Try.prog.readableRec t && decide (t < Try.prog.types.size)) = true := by kernel_rfl

set_option maxRecDepth 100000 in
theorem runsLevels_lifted (os : Os) (started : os.Started) (H : Type) (enc : TypeId × Value → H) :
    ReturnsInHanded {} Try.checked os 4 .any (Rows.runsLevelsSpec.pre6 enc Try.prog Try.f4 Rows.runsLevelsRow.domain false) (Rows.runsLevelsSpec.post enc Try.prog Try.f4 false true false false) := by
  refine returnsInHanded_of_change (C := Try.checked) runsLevels_own started (by kernel_rfl) Try.func4
    (ChangeSpec.witness6 (enc := enc) (C := Try.checked) false ⟨#[], #[.slice none 0 0, .int .i64 0], []⟩ 8 (by kernel_rfl) (by kernel_rfl) (by kernel_rfl) (by kernel_rfl)) ?_
  intro W base args ds gs before hval0 hW hcnd _
  have hval : ∀ (j : Nat) t v, Try.f4.params[j]? = some t → args[j]? = some v → Value.okWide Try.prog W .any base t v := hval0
  have hW' := hW
  obtain ⟨p, q, hA0, hV, rfl, hfz, hnd⟩ := hW
  have hA : DataW.TrodAll enc Try.prog W 0 (fun _ => true) true Try.f4.params.toList args.toList ds p := hA0
  rw [Try.params4] at hA hval
  obtain ⟨v0, vs0, d0, ds0, p0, q0, hargs, rfl, rfl, h0, r0⟩ := trodAll_cons hA
  obtain ⟨v1, vs1, d1, ds1, p1, q1, rfl, rfl, rfl, h1, r1⟩ := trodAll_cons r0
  obtain ⟨rfl, rfl, rfl⟩ := trodAll_nil r1
  obtain rfl : args = #[v0, v1] := by cases args; simp_all
  obtain ⟨rfl, rfl⟩ := trodVars_none hV
  obtain ⟨p0, l0, c0, rfl, w0, x0⟩ := open_rows 3 _ Try.underlying23 (by kernel_rfl) (by decide) (ev_struct Try.underlying40 Try.underlying4 Try.underlying3 rfl rfl rfl rfl rfl rfl (by kernel_rfl) (by kernel_rfl)) (hval 0 23 v0 rfl rfl) h0
  obtain ⟨a1, rfl, rfl, rfl, w1⟩ := open_int Try.underlying3 (hval 1 3 v1 rfl rfl) h1
  clear hA0 hval0
  refine (runsLevels_walk p0 l0 c0 a1 W x0 w0 w1).mono fun e W' ⟨he, hb⟩ => ?_
  subst he
  exact ⟨_, rfl, law_end runsLevels_laid runsLevels_reads rfl Try.underlying4 rfl hW' rfl hb⟩

theorem runsLevels_over : Rows.runsLevelsRow.holds Try.pinned (OpenSpec.ofChange Rows.runsLevelsSpec) :=
  OpenClaim.holds_of_wide 4 Try.f4 rfl rfl rfl rfl rfl rfl rfl ⟨rfl, rfl, rfl, rfl, rfl⟩ rfl rfl rfl rfl rfl (by kernel_rfl) Try.func4 (by kernel_rfl)
    (of_decide_eq_true (by kernel_rfl)) (by unfold Func.isWrapper; first | (rw [if_pos (by decide +kernel)]; kernel_rfl) | (rw [if_neg (by decide +kernel)]; exact ⟨rfl, rfl⟩))
    (fun os started H enc _ => runsLevels_lifted os started H enc)

theorem runsLevels_holds : Rows.RunsLevelsSaid :=
  runsLevels_over
#print axioms runsLevels_holds
end Go.Proofs.Ytppbejnjcogcmaa
