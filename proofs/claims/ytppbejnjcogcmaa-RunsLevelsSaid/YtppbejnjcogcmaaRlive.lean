/- The examples of chapter 10 come out. No condition. -/
import Derived.Test.YtppbejnjcogcmaaRlevr
import Derived.Test.YtppbejnjcogcmaaRevr
namespace Go.Proofs.Ytppbejnjcogcmaa
open Go.RowKit Go.Lib

def exF (i : Nat) : Int := if i = 1 then 5 else if i = 4 then -1 else 0
def exA : List Ev := [(false, 0, 5), (true, 2, -1)]
def exB : List Ev := [(false, 1, 5), (true, 2, -1)]
theorem ex_events : evG exF 1 = (exA, 0) := by decide +kernel
theorem ex_levels : (lvG exB 0).2 = 0 ∧ ∀ i, i < 64 → (lvG exB 0).1 i = exF i := by decide +kernel
theorem ex_lit : (#[.int .i64 0, .int .i64 5, .int .i64 0, .int .i64 0, .int .i64 (-1), .int .i64 0, .int .i64 0, .int .i64 0, .int .i64 0, .int .i64 0, .int .i64 0, .int .i64 0, .int .i64 0, .int .i64 0, .int .i64 0, .int .i64 0, .int .i64 0, .int .i64 0, .int .i64 0, .int .i64 0, .int .i64 0, .int .i64 0, .int .i64 0, .int .i64 0, .int .i64 0, .int .i64 0, .int .i64 0, .int .i64 0, .int .i64 0, .int .i64 0, .int .i64 0, .int .i64 0, .int .i64 0, .int .i64 0, .int .i64 0, .int .i64 0, .int .i64 0, .int .i64 0, .int .i64 0, .int .i64 0, .int .i64 0, .int .i64 0, .int .i64 0, .int .i64 0, .int .i64 0, .int .i64 0, .int .i64 0, .int .i64 0, .int .i64 0, .int .i64 0, .int .i64 0, .int .i64 0, .int .i64 0, .int .i64 0, .int .i64 0, .int .i64 0, .int .i64 0, .int .i64 0, .int .i64 0, .int .i64 0, .int .i64 0, .int .i64 0, .int .i64 0, .int .i64 0] : Array Value) = arrA exF := by kernel_rfl
theorem evs_two {w : World} {K : Nat} {x0 y0 : Bool} {x1 x2 y1 y2 : Int} (h : w.heap[K]? = some (.cells #[.bool x0, .int .i64 x1, .int .i64 x2, .bool y0, .int .i64 y1, .int .i64 y2] 40 (0, 0))) : EvsIn w (some ⟨K, 0, none⟩) [(x0, x1, x2), (y0, y1, y2)] := by
  have h' : w.heap[K]? = some (.cells [.bool x0, .int .i64 x1, .int .i64 x2, .bool y0, .int .i64 y1, .int .i64 y2].toArray 40 (0, 0)) := h
  refine .inr ⟨K, 0, rfl, (Array.getElem?_eq_some_iff.1 h).1, fun i hi => ?_⟩
  match i, hi with
  | 0, _ => exact ⟨part_cells h' rfl, part_cells h' rfl, part_cells h' rfl⟩
  | 1, _ => exact ⟨part_cells h' rfl, part_cells h' rfl, part_cells h' rfl⟩
/-- A whole array loaded behind a guard that is met. -/
theorem wpList_wanted_load {P : Program} {ops : Array Oper} {rest : List Oper} {o : Oper} {a : Act} {w : World} {Q : Exit → Act → World → Prop} (hw : Region.wanted o (yielded ops a.tmps) = true) (ty : TypeId) (x : Operand) (ho : o.op = .load ty x)
    (g : Nat) (hx : a.eval x = .pointer (some ⟨g, 0, none⟩)) (t : TypeId) (cs : Array Value) (fr : Nat × Nat) (d : TypeDesc) (hg : w.heap[g]? = some (.cells cs t fr))
    (hu : P.underlying ty = some d) (hd : (match d with | .struct _ | .array _ _ => true | _ => false) = true) (hi : (P.info? ty).map (·.size) = some cs.size)
    (h : wpList P ops Q rest (a.put o.dst (.agg cs)) w) : wpList P ops Q (o :: rest) a w := by
  unfold wpList
  rw [if_pos hw]
  exact .inl (wp_load_row ty x ho g hx t cs fr d hg hu hd hi h)
set_option maxRecDepth 100000 in
set_option maxHeartbeats 400000 in
theorem lives10 (w : World) : Calls Try.prog 9 #[] w fun e w' => e = .returned (.bool true) ∧ Below w.heap.size w w' := by
  have he := fun x => events_code exF 1 x
  have hlit := ex_lit
  have hz0 : arrA (lvG exB 0).1 = arrA exF := arrA_congr ex_levels.2
  have heq : ∀ w, (Op.equalIn 10000 22 (.agg (arrA exF)) (.agg (arrA exF))).run Try.prog w = .ok true w := fun w => (arr_equal exF exF w).trans (by rw [arrEq_iff.2 fun _ _ => rfl])
  have HONE := arrA_one exF
  obtain ⟨Y, hY⟩ : ∃ Y, arrA (fun _ => 0) = Y := ⟨_, rfl⟩
  have HZV := Lib.hid (show ∀ w, (zeroValue 22).run Try.prog w = .ok (.agg Y) w by rw [← hY]; exact arr_zero)
  have hYZ : Y.size = (arrA exF).size := by rw [← hY, arrA_size, arrA_size]
  have HSZ : (Try.prog.info? 22).map (·.size) = some (arrA exF).size := arr_sized _
  obtain ⟨Z, hZ⟩ : ∃ Z, arrA exF = Z := ⟨_, rfl⟩
  rw [hZ] at he hlit hz0 heq HSZ HONE hYZ
  clear hY
  go_enter Try.func9, Try.ntmps9
  go_wp2_with fail
  refine (he _).mono ?_
  rintro e w1 ⟨v, rfl, ho, hb1⟩
  rw [ex_events] at ho ⊢
  go_wp2_with fail
  obtain ⟨q, cap, rfl, hq⟩ := owns_evs ho
  obtain ⟨K, hK⟩ : ∃ K, w1.heap.size = K := ⟨_, rfl⟩
  have hh2 := heap_alloc_new w1 (.cells #[.bool false, .int .i64 1, .int .i64 5, .bool true, .int .i64 2, .int .i64 (-1)] 40 (0, 0))
  have hb2 := hb1.alloc hb1.size (.cells #[.bool false, .int .i64 1, .int .i64 5, .bool true, .int .i64 2, .int .i64 (-1)] 40 (0, 0))
  have hk1 : w1.heap.size ≤ (w1.alloc (.cells #[.bool false, .int .i64 1, .int .i64 5, .bool true, .int .i64 2, .int .i64 (-1)] 40 (0, 0))).heap.size := by simp
  have hq2 := hq.below ((Below.refl _ w1).alloc (Nat.le_refl _) (.cells #[.bool false, .int .i64 1, .int .i64 5, .bool true, .int .i64 2, .int .i64 (-1)] 40 (0, 0)))
  have hz1 := hb1.size
  rw [hK] at hh2 hk1 ⊢
  generalize w1.alloc (.cells #[.bool false, .int .i64 1, .int .i64 5, .bool true, .int .i64 2, .int .i64 (-1)] 40 (0, 0)) = w2 at hh2 hb2 hk1 hq2 ⊢
  clear hq hb1 ho
  have hlv : Calls Try.prog 10 #[.slice (some ⟨K, 0, none⟩) 2 2, .int .i64 0] w2 (LvGives exB 0 w2) := levels_code (some ⟨K, 0, none⟩) exB 2 0 w2 (evs_two hh2) (by decide)
  refine hlv.mono ?_
  rintro e w3 ⟨rfl, hb3⟩
  have hz2 := hb2.size
  have hb4 := hb2.trans (hb3.mono hz2)
  have hq3 := hq2.below hb3
  have hz4 := hb4.size
  rw [ex_levels.1, hz0]
  obtain ⟨X, hX⟩ : ∃ X, w3.heap.size = X := ⟨_, rfl⟩
  have hzv := HZV.out
  have hh4 := heap_alloc_new w3 (.cells Y 22 (0, 0))
  have hb5 := hb4.alloc hz4 (.cells Y 22 (0, 0))
  have hb34 := (Below.refl _ w3).alloc (Nat.le_refl _) (.cells Y 22 (0, 0))
  have hsz4 : (w3.alloc (.cells Y 22 (0, 0))).heap.size = X + 1 := by simp; omega
  rw [hX] at hh4
  generalize hw4 : w3.alloc (.cells Y 22 (0, 0)) = w4 at hh4 hb5 hb34 hsz4
  have HW4 := Lib.hid hw4
  have HX := Lib.hid hX
  have HQ := Lib.hid (fun (y : World) (hy : Below w3.heap.size w3 y) => hq3.below hy)
  rw [hX] at hb34 HQ
  have HXW := Lib.hid (show w.heap.size ≤ X by omega)
  clear hw4 hX hb2 hb3 hb4 hq2 hq3 hh2 hk1 hlv he
  go_wp2_with (rw [HW4.out, HX.out]; with_reducible refine wp_store_arr rfl 22 _ _ rfl X Z Y rfl rfl 22 hh4 HSZ hYZ HONE ?_; intro w5 hh5 hg5; clear hzv)
  have hb6 : Below X w3 w5 := hb34.grown hg5 (by omega) (fun k hk => by injection hk with hk; omega)
  have hb7 : Below w.heap.size w w5 := hb5.grown hg5 (by have := HXW.out; omega) (fun k hk => by injection hk with hk; have := HXW.out; omega)
  have hz7 := hb7.size
  have hq8 := (HQ.out _ hb6).below ((Below.refl _ w5).alloc (Nat.le_refl _) (.cells #[.bool false, .int .i64 0, .int .i64 5, .bool true, .int .i64 2, .int .i64 (-1)] 40 (0, 0)))
  have hh8 := heap_alloc_new w5 (.cells #[.bool false, .int .i64 0, .int .i64 5, .bool true, .int .i64 2, .int .i64 (-1)] 40 (0, 0))
  have hb8 := hb7.alloc hz7 (.cells #[.bool false, .int .i64 0, .int .i64 5, .bool true, .int .i64 2, .int .i64 (-1)] 40 (0, 0))
  have hx8 := heap_keep (ob := .cells #[.bool false, .int .i64 0, .int .i64 5, .bool true, .int .i64 2, .int .i64 (-1)] 40 (0, 0)) hh5
  generalize w5.alloc (.cells #[.bool false, .int .i64 0, .int .i64 5, .bool true, .int .i64 2, .int .i64 (-1)] 40 (0, 0)) = w6 at hq8 hh8 hb8 hx8 ⊢
  have hsm := same_page q (some ⟨w5.heap.size, 0, none⟩) exA exA cap 2 w6 hq8 (evs_two hh8) (by decide)
  rw [show decide (exA = exA) = true from decide_eq_true rfl] at hsm
  have hsm' : Calls Try.prog 8 #[.slice q exA.length cap, .slice (some ⟨w5.heap.size, 0, none⟩) 2 2] w6 _ := hsm
  refine hsm'.mono ?_
  rintro e w7 ⟨rfl, hb9⟩
  have hz8 := hb8.size
  have hb10 := hb8.trans (hb9.mono hz8)
  have hx9 := (hb9.block X (by have := (Array.getElem?_eq_some_iff.1 hx8).1; omega)).trans hx8
  clear hsm hsm' hb9 hb8 hx8 hh8 hq8 hb7 hb6 hb5 hb34 hh4 hg5 hh5
  go_wp2_with (with_reducible refine wpList_wanted_load ?hw 22 _ rfl X rfl 22 Z (0, 0) _ hx9 Try.underlying22 rfl HSZ ?_; (case hw => kernel_rfl))
  go_ret
  exact ⟨rfl, hb10⟩
end Go.Proofs.Ytppbejnjcogcmaa
