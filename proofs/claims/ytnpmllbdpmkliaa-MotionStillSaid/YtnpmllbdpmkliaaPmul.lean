/- A product by 1 in two words; a text of one byte many times. No condition. -/
import Derived.Test.YtnpmllbdpmkliaaPmem
import Derived.Test.YtnpmllbdpmkliaaCalm
import Derived.WalkKit
import Derived.Laws.Bits64b
import Derived.Laws.Externs
import Derived.Lib.MakeNoZero
import Derived.Deep.Draws
namespace Go.Proofs.Ytnpmllbdpmkliaa
open Go.RowKit Go.Lib

set_option maxRecDepth 100000 in
theorem mul64_one (n : Nat) (hn : n < 4294967296) (w : World) : Calls Try.prog 48 #[.int .u64 1, .int .u64 (n : Int)] w fun e w' => e = .returned (.tuple #[.int .u64 0, .int .u64 (n : Int)]) ∧ w = w' := by
  have a1 : bits .and .u64 (1 : Int) 4294967295 = 1 := by decide +kernel
  have a0 : bits .and .u64 (0 : Int) 4294967295 = 0 := by decide +kernel
  have a2 : bits .and .u64 (n : Int) 4294967295 = (n : Int) := by
    have h := bits_and_u64_nat n 4294967295 (by omega) (by omega)
    have e : n &&& 4294967295 = n % 4294967296 := Nat.and_two_pow_sub_one_eq_mod n 32
    rw [e, Nat.mod_eq_of_lt hn] at h
    exact h
  have d0 : (n : Int) / 4294967296 = 0 := by omega
  have w0 : IntKind.u64.wrap (n : Int) = (n : Int) := by rw [IntKind.wrap_u64]; omega
  go_enter Try.func48, Try.ntmps48
  go_wp2
  go_ret2
  exact ⟨rfl, rfl⟩
set_option maxRecDepth 100000 in
theorem mul_one_code (n : Nat) (hn : n < 4294967296) (w : World) : Calls Try.prog 45 #[.int .u64 1, .int .u64 (n : Int)] w fun e w' => e = .returned (.tuple #[.int .u64 0, .int .u64 (n : Int)]) ∧ w = w' := by
  have c := fun w => mul64_one n hn w
  go_enter Try.func45, Try.ntmps45
  go_wp2_with (with_reducible refine (c _).mono ?_; rintro e w1 ⟨rfl, rfl⟩)
  go_ret2
  exact ⟨rfl, rfl⟩
end Go.Proofs.Ytnpmllbdpmkliaa
