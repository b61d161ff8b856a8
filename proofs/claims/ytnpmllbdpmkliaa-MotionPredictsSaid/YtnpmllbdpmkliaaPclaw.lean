/- Patches compared. The walk of PlanesCuts. No condition. -/
import Derived.Test.YtnpmllbdpmkliaaPcutn
namespace Go.Proofs.Ytnpmllbdpmkliaa
open Go.RowKit

theorem arr_cells : Try.prog.cellsOf 31 = 64 := by kernel_rfl
theorem arr_info : ∃ i, Try.prog.info? 31 = some i ∧ i.size = 64 := by
  have h : (Try.prog.info? 31).map (·.size) = some 64 := by kernel_rfl
  cases hq : Try.prog.info? 31 with
  | none => simp [hq] at h
  | some i => exact ⟨i, rfl, by simpa [hq] using h⟩
theorem pt_extract (f : Nat → Int) {i : Nat} (h : i < 6) : (arn 384 f).extract (i * 64) (i * 64 + 64) = arrA fun j => f (i * 64 + j) := by
  apply Array.ext_getElem?
  intro q
  rw [Array.getElem?_extract, arn_size]
  by_cases hq : q < 64
  · rw [if_pos (by omega), arn_at f (show i * 64 + q < 384 by omega), arrA_at _ hq]
  · rw [if_neg (by omega), Array.getElem?_eq_none (by rw [arrA_size]; omega)]
theorem run_part_arr (A : Array Value) (o : Nat) (w : World) : (part 31 A o).run Try.prog w = .ok (.agg (A.extract o (o + 64))) w := by
  obtain ⟨j, hj, hs⟩ := arr_info
  simp [part, isAgg, run_underlying Try.underlying31, sizeOf, typeInfo, hj, hs]
theorem arr_self (d : Nat) (g : Nat → Int) (w : World) : (Op.equalIn (d + 2) 31 (.agg (arrA g)) (.agg (arrA g))).run Try.prog w = .ok true w := by
  obtain ⟨j, hj⟩ := int_info
  have e : ((List.range 64).all fun i => g i == g i) = true := by simp
  have h := run_equalIn_array (P := Try.prog) w (d + 1) (arrA g) (arrA g) Try.underlying31 hj
  have h2 := eq_items d g g w (List.range 64) fun i hi => List.mem_range.1 hi
  rw [e] at h2
  exact h.trans h2
theorem pt_items (d : Nat) (A : Array Value) (w : World) (hE : ∀ g : Nat → Int, (Op.equalIn (d + 1) 31 (.agg (arrA g)) (.agg (arrA g))).run Try.prog w = .ok true w) : ∀ is : List Nat, (∀ i ∈ is, ∃ g, A.extract (i * 64) (i * 64 + 64) = arrA g) → (Op.eqItems (d + 1) 31 64 A A is).run Try.prog w = .ok true w
  | [], _ => by simp [Op.eqItems]
  | i :: is, h => by
    obtain ⟨g, hg⟩ := h i List.mem_cons_self
    have p1 := run_part_arr A (i * 64) w
    rw [hg] at p1
    have p3 := hE g
    have ih := pt_items d A w hE is fun k hk => h k (List.mem_cons_of_mem _ hk)
    generalize arrA g = Z at p1 p3
    unfold Op.eqItems
    rw [Sem.run_bind, p1, Result.andThen_ok, Sem.run_bind, p1, Result.andThen_ok, Sem.run_bind, p3, Result.andThen_ok, if_neg (by simp)]
    exact ih
theorem pt_self (A : Array Value) (h : ∀ i, i < 6 → ∃ g, A.extract (i * 64) (i * 64 + 64) = arrA g) (w : World) : (Op.equalIn 10000 33 (.agg A) (.agg A)).run Try.prog w = .ok true w := by
  obtain ⟨j, hj, _⟩ := arr_info
  have h1 := run_equalIn_array (P := Try.prog) w 9999 A A Try.underlying33 hj
  have h2 := pt_items 9998 A w (fun g => arr_self 9997 g w) (List.range 6) fun i hi => h i (List.mem_range.1 hi)
  rw [← arr_cells] at h2
  exact h1.trans h2
theorem pt_equal (f : Nat → Int) (w : World) : (Op.equalIn 10000 33 (.agg (arn 384 f)) (.agg (arn 384 f))).run Try.prog w = .ok true w := pt_self (arn 384 f) (fun _ hi => ⟨_, pt_extract f hi⟩) w

end Go.Proofs.Ytnpmllbdpmkliaa
