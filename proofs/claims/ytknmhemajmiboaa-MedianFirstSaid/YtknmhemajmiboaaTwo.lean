/- Arrays of two int: as values, as they lie in a block; slices of them, that come in or are of one's own. No condition. -/
import Derived.Test.YtknmhemajmiboaaArn
import Derived.Test.YtknmhemajmiboaaOpen
namespace Go.Proofs.Ytknmhemajmiboaa
open Go.RowKit Go.Lib

def twoA (a b : Int) : Array Value := #[.int .i64 a, .int .i64 b]
theorem two_at {w : World} {B : Nat} {a b : Int} (h : w.heap[B]? = some (.cells (twoA a b) 24 (0, 0))) : w.cell? ⟨B, 0, none⟩ = some (.int .i64 a) ∧ w.cell? ⟨B, 1, none⟩ = some (.int .i64 b) :=
  ⟨part_cells (cs := [.int .i64 a, .int .i64 b]) h rfl, part_cells (cs := [.int .i64 a, .int .i64 b]) h rfl⟩
theorem two_size : (Try.prog.info? 24).map (·.size) = some 2 := by kernel_rfl
theorem two_sized (a b : Int) : (Try.prog.info? 24).map (·.size) = some (twoA a b).size := two_size
theorem two_one (a b : Int) : (twoA a b).all (·.oneCell') = true := by simp [twoA, Value.oneCell']

theorem two_equal (a b c d : Int) (w : World) : (Op.equalIn 10000 24 (.agg #[.int .i64 a, .int .i64 b]) (.agg #[.int .i64 c, .int .i64 d])).run Try.prog w = .ok (a == c && b == d) w := by
  obtain ⟨j, hj⟩ := int_info
  have h := run_equalIn_array (P := Try.prog) w 9999 #[.int .i64 a, .int .i64 b] #[.int .i64 c, .int .i64 d] Try.underlying24 hj
  refine h.trans ?_
  have p1 := run_part_plain (P := Try.prog) w int_plain (show (#[.int .i64 a, .int .i64 b] : Array Value)[0]? = some (.int .i64 a) from rfl)
  have p2 := run_part_plain (P := Try.prog) w int_plain (show (#[.int .i64 a, .int .i64 b] : Array Value)[1]? = some (.int .i64 b) from rfl)
  have p3 := run_part_plain (P := Try.prog) w int_plain (show (#[.int .i64 c, .int .i64 d] : Array Value)[0]? = some (.int .i64 c) from rfl)
  have p4 := run_part_plain (P := Try.prog) w int_plain (show (#[.int .i64 c, .int .i64 d] : Array Value)[1]? = some (.int .i64 d) from rfl)
  have q1 := run_equalIn_int (P := Try.prog) w 9998 3 .i64 .i64 a c Try.underlying3
  have q2 := run_equalIn_int (P := Try.prog) w 9998 3 .i64 .i64 b d Try.underlying3
  show (Op.eqItems 9999 3 (Try.prog.cellsOf 3) _ _ [0, 1]).run Try.prog w = _
  rw [int_cells]
  simp only [Op.eqItems, Sem.run_bind, Nat.mul_one, p1, p3, q1, Result.andThen_ok]
  cases hq : (a == c) with
  | false => simp
  | true =>
    simp only [Bool.not_true, Bool.false_eq_true, if_false, Sem.run_bind, p2, p4, q2, Result.andThen_ok, Bool.true_and]
    cases hq2 : (b == d) <;> simp
theorem two_equal_self (x : Int × Int) (w : World) : (Op.equalIn 10000 24 (.agg #[.int .i64 x.1, .int .i64 x.2]) (.agg #[.int .i64 x.1, .int .i64 x.2])).run Try.prog w = .ok true w := by
  rw [two_equal]; simp
/-- Vectors one behind the other. -/
def VecsAt (w : World) (p : Option Addr) (n : Nat) (f : Nat → Int × Int) : Prop :=
  n = 0 ∨ ∃ b o, p = some ⟨b, o, none⟩ ∧ b < w.heap.size ∧ ∀ i, i < n → w.cell? ⟨b, o + i * 2, none⟩ = some (.int .i64 (f i).1) ∧ w.cell? ⟨b, o + i * 2 + 1, none⟩ = some (.int .i64 (f i).2)
theorem VecsAt.mono {w w' : World} {p : Option Addr} {n : Nat} {f : Nat → Int × Int} (h : VecsAt w p n f) (hb : Below w.heap.size w w') : VecsAt w' p n f := by
  rcases h with h | ⟨b, o, rfl, hlt, hc⟩
  · exact .inl h
  · refine .inr ⟨b, o, rfl, by have := hb.size; omega, fun i hi => ?_⟩
    obtain ⟨h0, h1⟩ := hc i hi
    exact ⟨(World.cell?_of_block (a := ⟨b, o + i * 2, none⟩) (hb.block b hlt)).trans h0, (World.cell?_of_block (a := ⟨b, o + i * 2 + 1, none⟩) (hb.block b hlt)).trans h1⟩
theorem vecs_hold {w : World} {p : Option Addr} {n : Nat} {f : Nat → Int × Int} (h : VecsAt w p n f) (hn : 0 < n) : ∃ b o, p = some ⟨b, o, none⟩ ∧ ∀ x, Below w.heap.size w x → ∀ i, i < n → x.cell? ⟨b, o + i * 2, none⟩ = some (.int .i64 (f i).1) ∧ x.cell? ⟨b, o + i * 2 + 1, none⟩ = some (.int .i64 (f i).2) := by
  rcases h with h | ⟨b, o, rfl, hlt, hc⟩
  · omega
  · refine ⟨b, o, rfl, fun x hx i hi => ?_⟩
    obtain ⟨h0, h1⟩ := hc i hi
    exact ⟨(World.cell?_of_block (a := ⟨b, o + i * 2, none⟩) (hx.block b hlt)).trans h0, (World.cell?_of_block (a := ⟨b, o + i * 2 + 1, none⟩) (hx.block b hlt)).trans h1⟩
theorem vecs_of_rows {w : World} {p : Option Addr} {n : Nat} (h : RowsAt w TwoInts 2 p n) : ∃ f : Nat → Int × Int, VecsAt w p n f ∧ ∀ i, i < n → (Lit.int .i64 (f i).1).wf = true ∧ (Lit.int .i64 (f i).2).wf = true := by
  rcases h with rfl | ⟨b, o, rfl, hlt, hr⟩
  · exact ⟨fun _ => (0, 0), .inl rfl, fun i hi => by omega⟩
  · have hq : ∀ i, ∃ q : Int × Int, i < n → (w.cell? ⟨b, o + i * 2, none⟩ = some (.int .i64 q.1) ∧ w.cell? ⟨b, o + i * 2 + 1, none⟩ = some (.int .i64 q.2)) ∧ (Lit.int .i64 q.1).wf = true ∧ (Lit.int .i64 q.2).wf = true := by
      intro i
      by_cases hi : i < n
      · obtain ⟨vs, _, ⟨x, y, rfl, wx, wy⟩, hv⟩ := hr i hi
        exact ⟨(x, y), fun _ => ⟨⟨hv 0 _ rfl, hv 1 _ rfl⟩, wx, wy⟩⟩
      · exact ⟨(0, 0), fun h => absurd h hi⟩
    refine ⟨fun i => (hq i).choose, .inr ⟨b, o, rfl, hlt, fun i hi => ((hq i).choose_spec hi).1⟩, fun i hi => ((hq i).choose_spec hi).2⟩
end Go.Proofs.Ytknmhemajmiboaa
